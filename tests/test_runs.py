"""The rows of runs [4.1], by hand."""

import unittest

from restwise.base.programs import Program
from restwise.run.runs import Run
from tests.making import INNER, LOG, LOSE, OUTER


def row_of(*lines, name="main", world=(), given=(), moves=2000):
    return Run(Program.from_lines(*lines), name, world, given=given, moves=moves).row


def short(row):
    """Events with the indices of their places only, which are all in one function."""
    told = []
    for word, *items in row:
        told.append((word, *[item[1] if isinstance(item, tuple) and item else item for item in items]))
    return told


class Plain(unittest.TestCase):
    def test_done_and_steps(self):
        self.assertEqual(row_of("main: done"), ())
        self.assertEqual(row_of("main: then step s then done step t"), (("step", ("main", 1)), ("step", ("main", 4))))

    def test_calls(self):
        self.assertEqual(row_of("main: then call f step s", "f: step t"), (("step", ("f", 0)), ("step", ("main", 2))))

    def test_holds(self):
        self.assertEqual(short(row_of("main: hold then step s hold done")),
                         [("open", 0), ("step", 2), ("open", 3), ("close", 3), ("close", 0)])

    def test_tests_use_the_world(self):
        line = "main: then test step a step b then test step c step d test step e step f"
        for world, steps in (((), "ace"), ((False,), "bce"), ((True, False), "ade"), ((False, False, False), "bdf"),
                             ((True, True, False, False), "acf")):
            run = Run(Program.from_lines(line), "main", world)
            self.assertEqual("".join(run.steps), steps)
            self.assertEqual(run.tests, 3)

    def test_a_handle_whose_work_asks_nothing(self):
        self.assertEqual(short(row_of("main: then handle a: step s step t rest step u")),
                         [("step", 2), ("last", 1), ("step", 3), ("step", 5)])


class Answers(unittest.TestCase):
    def test_a_clause_that_drops(self):
        self.assertEqual(short(row_of("main: then handle a: then ask a step p step q step r step s")),
                         [("ask", 3, 1), ("step", 6), ("drop", 6), ("step", 7)])

    def test_a_rest_is_run_with_its_handle_and_last_part(self):
        self.assertEqual(short(row_of("main: then handle a: then ask a step p step q then step r rest step s")),
                         [("ask", 3, 1), ("step", 7), ("rest", 8, 1), ("step", 4), ("last", 1), ("step", 5),
                          ("ended", 8), ("step", 9)])

    def test_behind_stands_ahead_of_what_the_node_tells(self):
        self.assertEqual(short(row_of("main: handle a: ask a done then rest step s")),
                         [("ask", 1, 0), ("rest", 4, 1), ("last", 0), ("ended", 4), ("behind", 4), ("step", 5)])
        self.assertEqual(short(row_of("main: handle a: ask a done then rest hold done")),
                         [("ask", 1, 0), ("rest", 4, 1), ("last", 0), ("ended", 4), ("behind", 4), ("open", 5), ("close", 5)])

    def test_behind_is_no_done_and_no_then(self):
        self.assertEqual(short(row_of("main: handle a: ask a done then rest then done done")),
                         [("ask", 1, 0), ("rest", 4, 1), ("last", 0), ("ended", 4)])
        self.assertEqual(short(row_of("main: handle a: ask a done then rest then done then done test done done")),
                         [("ask", 1, 0), ("rest", 4, 1), ("last", 0), ("ended", 4), ("behind", 4)])

    def test_behind_of_a_call_and_of_a_handle(self):
        row = row_of("main: handle a: ask a done then rest call f", "f: done")
        self.assertEqual(row[-2:], (("ended", ("main", 4)), ("behind", ("main", 4))))
        row = row_of("main: handle a: ask a done then rest handle b: done step s done")
        self.assertEqual(short(row)[3:], [("ended", 4), ("behind", 4), ("last", 5), ("step", 7)])

    def test_two_rests_one_behind_the_other(self):
        self.assertEqual(short(row_of("main: handle a: then ask a step p done then rest rest")),
                         [("ask", 2, 0), ("rest", 6, 1), ("step", 3), ("last", 0), ("ended", 6), ("behind", 6),
                          ("rest", 7, 2), ("step", 3), ("last", 0), ("ended", 7)])

    def test_three_rests_and_the_last_behind_two(self):
        row = short(row_of("main: handle a: ask a done then rest then done then rest then rest step s"))
        self.assertEqual([event for event in row if event[0] not in ("last", "ask")],
                         [("rest", 4, 1), ("ended", 4), ("behind", 4), ("rest", 8, 2), ("ended", 8), ("behind", 8),
                          ("rest", 10, 3), ("ended", 10), ("behind", 10), ("step", 11)])

    def test_rests_in_tests(self):
        program = Program.from_lines("main: handle a: ask a done test then rest rest step s")
        self.assertEqual([event[0] for event in Run(program, "main", (False,))], ["ask", "step", "drop"])
        self.assertEqual([event[2] for event in Run(program, "main", (True,)) if event[0] == "rest"], [1, 2])

    def test_a_piece_that_asks_again_is_answered_by_the_same_handle(self):
        row = short(row_of("main: handle a: then ask a ask a step q rest"))
        self.assertEqual(row, [("ask", 2, 0), ("rest", 5, 1), ("ask", 3, 0), ("rest", 5, 1), ("last", 0), ("step", 4),
                               ("ended", 5), ("ended", 5)])

    def test_a_piece_that_is_dropped_by_a_later_answer_has_ended_too(self):
        row = row_of("main: handle a: then ask a then ask a step p done then step q test then rest step r done",
                     world=(True, False))
        self.assertEqual(short(row), [("ask", 2, 0), ("step", 8), ("rest", 11, 1), ("ask", 4, 0), ("step", 8), ("drop", 7),
                                      ("ended", 11), ("behind", 11), ("step", 12)])

    def test_the_nearest_handle_answers(self):
        row = short(row_of("main: handle a: handle a: ask a step p rest step q rest"))
        self.assertEqual(row, [("ask", 2, 1), ("rest", 4, 1), ("last", 1), ("step", 3), ("ended", 4), ("last", 0), ("step", 5)])
        row = short(row_of("main: handle a: handle b: ask a step p rest step q rest"))
        self.assertEqual(row, [("ask", 2, 0), ("rest", 6, 1), ("last", 1), ("step", 3), ("last", 0), ("step", 5), ("ended", 6)])

    def test_a_clause_asks_further_out_than_its_own_handle(self):
        row = short(row_of("main: handle a: handle a: ask a done then ask a rest done then step s rest"))
        self.assertEqual(row, [("ask", 2, 1), ("ask", 5, 0), ("step", 9), ("rest", 10, 1), ("rest", 6, 1), ("last", 1),
                               ("ended", 6), ("last", 0), ("ended", 10)])

    def test_last_parts_ask_further_out(self):
        row = short(row_of("main: handle a: handle a: done ask a rest done then step s rest"))
        self.assertEqual(row, [("last", 1), ("ask", 3, 0), ("step", 7), ("rest", 8, 1), ("last", 0), ("ended", 8)])

    def test_several_clauses(self):
        row = short(row_of("main: handle a b: then ask b ask a done step p then step q rest"))
        self.assertEqual(row, [("ask", 2, 0), ("step", 7), ("rest", 8, 1), ("ask", 3, 0), ("step", 5), ("drop", 5),
                               ("ended", 8)])

    def test_clauses_beneath_and_above(self):
        words = [event[0] for event in Run(INNER, "main", moves=40)]
        self.assertEqual(words, ["ask", "rest", "ask", "rest", "last", "ended", "behind", "step", "last", "ended", "behind"])
        words = [event[0] for event in Run(OUTER, "main", moves=30)]
        self.assertEqual(words, ["ask", "rest", "ask", "rest", "last", "ended", "behind"])


class Counts(unittest.TestCase):
    def test_a_copied_clause_counts_on_from_where_it_was(self):
        # The clause of b waits in the piece of a ahead of its rest, so both copies come to their first one.
        row = row_of("main: handle a: call f done then rest rest", "f: handle b: then ask b step p done then ask a rest")
        self.assertEqual([event[1:] for event in row if event[0] == "rest"], [
            (("main", 4), 1), (("f", 7), 1), (("main", 5), 2), (("f", 7), 1)])

    def test_a_copied_clause_that_has_come_to_its_rest_drops_nothing(self):
        row = row_of("main: handle a: call f done then rest rest", "f: handle b: then ask b ask a done rest")
        self.assertNotIn("drop", [event[0] for event in row])
        self.assertEqual([event[1:] for event in row if event[0] in ("rest", "ended")], [
            (("f", 5), 1), (("main", 4), 1), (("f", 5),), (("main", 4),), (("main", 5), 2), (("f", 5),), (("main", 5),)])

    def test_each_answer_counts_from_one(self):
        row = row_of("main: handle a: then ask a ask a done then rest rest")
        self.assertEqual([event[2] for event in row if event[0] == "rest"], [1, 1, 2, 2, 1, 2])


class Ends(unittest.TestCase):
    def test_a_stop(self):
        run = Run(LOG, "main")
        self.assertEqual(run.end, ("end",))
        run = Run(Program.from_lines("main: then step s handle b: ask a step t rest"), "main")
        self.assertEqual((short(run.row), run.end, run.moves), ([("step", 1)], ("stop", ("main", 3)), 4))

    def test_given_labels(self):
        program = Program.from_lines("main: then ask a then handle a: ask a done rest then ask b step s")
        run = Run(program, "main", given=("a", "b"))
        self.assertEqual(short(run.row), [("ask", 1, ()), ("ask", 4, 3), ("rest", 6, 1), ("last", 3), ("ended", 6),
                                          ("ask", 8, ()), ("step", 9)])
        self.assertEqual((run.asked, run.end), (("a", "b"), ("end",)))
        run = Run(program, "main", given=("a",))
        self.assertEqual((run.asked, run.end, len(run)), (("a",), ("stop", ("main", 8)), 5))
        self.assertEqual(Run(program, "main", given=("b",)).end, ("stop", ("main", 1)))

    def test_behind_a_rest_a_given_ask_and_a_stop(self):
        # A given ask is no answer: it does not cut the pile. What comes behind a rest is quiet.
        program = Program.from_lines("main: handle a: then ask a ask b done then rest step s")
        self.assertEqual([event[0] for event in Run(program, "main", given=("b",))],
                         ["ask", "rest", "ask", "last", "ended", "behind", "step"])
        self.assertEqual([event[0] for event in Run(program, "main")], ["ask", "rest"])

    def test_runs_that_are_cut_at_each_place(self):
        whole = Run(LOG, "main")
        for moves in range(whole.moves + 2):
            run = Run(LOG, "main", moves=moves)
            self.assertEqual(run.moves, min(moves, whole.moves))
            self.assertEqual(run.end, ("cut",) if moves < whole.moves else ("end",))
            self.assertEqual(whole.row[:len(run)], run.row)

    def test_no_moves(self):
        for lines in (("main: done",), ("main: hold ask a",), ("main: handle a: ask a done rest",)):
            run = Run(Program.from_lines(*lines), "main", moves=0)
            self.assertEqual((run.row, run.end, run.moves, run.places, run.tests), ((), ("cut",), 0, (), 0))

    def test_last_and_behind_are_not_told_ahead_of_a_cut(self):
        program = Program.from_lines("main: handle a: ask a done then rest step s")
        self.assertEqual([event[0] for event in Run(program, "main", moves=4)], ["ask", "rest"])
        self.assertEqual([event[0] for event in Run(program, "main", moves=5)], ["ask", "rest", "last", "ended"])
        self.assertEqual([event[0] for event in Run(program, "main", moves=6)],
                         ["ask", "rest", "last", "ended", "behind", "step"])

    def test_what_needs_no_move_comes_ahead_of_a_cut(self):
        program = Program.from_lines("main: then hold handle a: ask a done step s step t")
        run = Run(program, "main", moves=5)
        self.assertEqual(short(run.row), [("open", 1), ("ask", 3, 2), ("step", 5), ("drop", 5), ("close", 1)])
        self.assertEqual(run.end, ("cut",))
        self.assertEqual(Run(Program.from_lines("main: hold step s"), "main", moves=2).end, ("end",))

    def test_runs_that_never_end(self):
        for line in ("main: call main", "main: then call main step s", "main: handle a: then ask a call main done rest"):
            self.assertEqual(Run(Program.from_lines(line), "main").end, ("cut",))
            self.assertEqual(Run(Program.from_lines(line), "main").moves, 2000)


class Holds(unittest.TestCase):
    def test_lost_by_a_drop(self):
        self.assertEqual(short(row_of("main: handle a: hold then ask a step s done step t")),
                         [("open", 1), ("ask", 3, 0), ("step", 6), ("drop", 6), ("lost", 1)])

    def test_not_lost_if_it_is_closed_or_around(self):
        self.assertEqual(short(row_of("main: hold handle a: then hold done ask a done done"))[-2:], [("drop", 7), ("close", 0)])

    def test_several_openings_in_their_order(self):
        row = row_of("main: handle a: hold call f done done", "f: hold test call f ask a", world=(True, True, False))
        self.assertEqual(row[-5:], (("drop", ("main", 4)), ("lost", ("main", 1)), ("lost", ("f", 0)), ("lost", ("f", 0)),
                                    ("lost", ("f", 0))))

    def test_shared_by_a_second_rest_and_by_each_later_one(self):
        row = short(row_of("main: handle a: hold ask a done then rest then rest rest"))
        self.assertEqual([event for event in row if event[0] in ("open", "close", "rest", "shared", "lost")],
                         [("open", 1), ("rest", 5, 1), ("close", 1), ("rest", 7, 2), ("shared", 1), ("close", 1),
                          ("rest", 8, 3), ("shared", 1), ("close", 1)])
        at = row.index(("rest", 7, 2))
        self.assertEqual(row[at + 1], ("shared", 1))

    def test_left_by_a_stop(self):
        self.assertEqual(short(row_of("main: hold then hold done hold ask a")),
                         [("open", 0), ("open", 2), ("close", 2), ("open", 4), ("left", 0), ("left", 4)])

    def test_left_in_a_piece_that_is_held_by_a_clause_without_a_rest_so_far(self):
        self.assertEqual(short(row_of("main: handle a: hold ask a done then ask b rest")),
                         [("open", 1), ("ask", 2, 0), ("left", 1)])
        # The clause of a holds the piece of a clause that holds the hold.
        row = row_of("main: handle a: call mid done then ask c rest", "mid: handle b: hold ask b done then ask a rest")
        self.assertEqual(row[-2:], (("ask", ("mid", 5), ("main", 0)), ("left", ("mid", 1))))

    def test_not_left_if_the_clause_has_come_to_a_rest_and_the_copy_is_closed(self):
        row = short(row_of("main: handle a: then hold ask a ask b done rest"))
        self.assertEqual(row[-2:], [("rest", 6, 1), ("close", 2)])
        row = short(row_of("main: handle a: hold then ask a ask b done rest"))
        self.assertEqual(row[-2:], [("rest", 6, 1), ("left", 1)])

    def test_lost_in_a_piece_of_a_piece_only_ahead_of_its_rest(self):
        self.assertEqual(Run(LOSE, "main").row[-1], ("lost", ("mid", 1)))
        # The clause of b has come to its rest, and its copy is closed, when a is asked.
        row = row_of("main: handle a: call mid done done", "mid: then handle b: hold ask b done rest ask a")
        self.assertEqual(row[-1], ("drop", ("main", 3)))
        self.assertNotIn("lost", [event[0] for event in row])

    def test_shared_in_a_piece_of_a_piece(self):
        row = row_of("main: handle a: call mid done then rest rest", "mid: handle b: hold ask b done then ask a rest")
        at = row.index(("rest", ("main", 5), 2))
        self.assertEqual(row[at + 1], ("shared", ("mid", 1)))
        self.assertEqual([event for event in row if event[0] == "close"], [("close", ("mid", 1))] * 2)

    def test_a_closed_copy_is_still_in_the_piece(self):
        row = short(row_of("main: handle a: hold ask a done then rest test rest done"))
        self.assertIn(("close", 1), row[:row.index(("rest", 7, 2))])
        self.assertEqual(row[row.index(("rest", 7, 2)) + 1], ("shared", 1))

    def test_copies_are_the_same_opening(self):
        row = row_of("main: handle a: call f done then rest rest", "f: handle b: hold then ask a ask b done done")
        self.assertEqual([event for event in row if event[0] in ("open", "shared", "lost")],
                         [("open", ("f", 1)), ("lost", ("f", 1)), ("shared", ("f", 1)), ("lost", ("f", 1))])


class Properties(unittest.TestCase):
    PROGRAM = Program.from_lines("f: then ask b step t", "main: handle a: then test step s ask a call f done rest")

    def test_each(self):
        run = Run(self.PROGRAM, "main", (False, True), given=("b",), moves=99)
        self.assertEqual((run.program, run.name, run.world, run.given), (self.PROGRAM, "main", (False, True), ("b",)))
        self.assertEqual((run.tests, run.asked, run.steps, run.end), (1, ("b",), ("t",), ("end",)))
        self.assertEqual(run.places, (("f", 0), ("f", 1), ("f", 2), ("main", 0), ("main", 1), ("main", 2), ("main", 4),
                                      ("main", 5), ("main", 6), ("main", 7)))
        self.assertEqual(run.moves, 10)

    def test_places_stand_once(self):
        run = Run(Program.from_lines("main: then step s call main"), "main", moves=100)
        self.assertEqual(run.places, (("main", 0), ("main", 1), ("main", 2)))
        self.assertEqual(run.moves, 100)

    def test_what_stops_has_begun(self):
        run = Run(Program.from_lines("main: ask a"), "main")
        self.assertEqual((run.places, run.moves, len(run), run.asked), ((("main", 0),), 1, 0, ()))

    def test_labels_that_are_asked_several_times(self):
        run = Run(Program.from_lines("main: then ask b then ask a ask b"), "main", given=("a", "b"))
        self.assertEqual(run.asked, ("b", "a", "b"))


if __name__ == "__main__":
    unittest.main()
