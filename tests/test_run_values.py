"""What a run answers as a sequence, and `all_runs`."""

import unittest
from itertools import product

from restwise.base.programs import Program
from restwise.errors import InvalidNumber, InvalidOperation, InvalidProgram, InvalidWorld, UnknownName
from restwise.run.runs import Run, all_runs
from tests.making import FLIP, INNER, LOG
from tests.values import every_kind

FLIPPED = Run(FLIP, "main")
TURNS = Program.from_lines("main: then test step a step b test then step c test step d step e step f", "f: done")


class Sequence(unittest.TestCase):
    def test_indices(self):
        for index, event in enumerate(FLIPPED.row):
            self.assertEqual(FLIPPED[index], event)
        self.assertEqual(FLIPPED[1], ("rest", ("main", 6), 1))
        for index in (-1, len(FLIPPED), 10 ** 59, 10 ** 60, -(10 ** 60), True, False, None, "0", (0,), [0], 1 - 10 ** 60):
            with self.assertRaises(InvalidNumber) as caught:
                FLIPPED[index]
            self.assertIs(caught.exception.number, index)
        with self.assertRaises(InvalidNumber):
            Run(FLIP, "coin", moves=0)[0]

    def test_first(self):
        self.assertEqual(FLIPPED.first(("step", ("main", 3))), 2)
        self.assertEqual(FLIPPED.first(("rest", ("main", 7), 2)), 6)
        self.assertEqual(FLIPPED.first(("ask", ("coin", 0), ("main", 0))), 0)
        for event in (("rest", ("main", 7), 1), ("rest", ("main", 6), 2), ("step", ("main", 4)), ("end",), ("step",)):
            self.assertIsNone(FLIPPED.first(event))

    def test_booleans_are_no_numbers(self):
        run = Run(Program.from_lines("main: handle a: ask a done rest", "f: then step s step t"), "main")
        self.assertIn(("rest", ("main", 3), 1), run)
        self.assertNotIn(("rest", ("main", 3), True), run)
        self.assertIsNone(run.first(("rest", ("main", 3), True)))
        run = Run(Program.from_lines("f: then step s step t"), "f")
        self.assertEqual((("step", ("f", 1)) in run, ("step", ("f", True)) in run), (True, False))

    def test_each_value_has_an_answer(self):
        for value in every_kind():
            self.assertIs(value in FLIPPED, False)
            self.assertIsNone(FLIPPED.first(value))

    def test_iteration_and_membership(self):
        self.assertEqual(tuple(FLIPPED), FLIPPED.row)
        self.assertEqual(len(FLIPPED), len(FLIPPED.row))
        for event in FLIPPED:
            self.assertIs(event in FLIPPED, True)
        self.assertIs(["step", ("main", 3)] in FLIPPED, False)

    def test_equality(self):
        one = Run(LOG, "main")
        self.assertEqual(one, Run(Program.from_lines(*LOG.lines), "main", (True, False), moves=900))
        self.assertNotEqual(one, Run(LOG, "main", given=("get",)))
        self.assertNotEqual(one, Run(LOG, "main", moves=5))
        self.assertNotEqual(one, Run(LOG.with_function("f", LOG["main"]), "main"))
        two = Program.from_lines("f: done", "g: done")
        self.assertNotEqual(Run(two, "f"), Run(two, "g"))
        self.assertEqual(Run(two, "f"), Run(two, "f", (True,)))
        self.assertNotEqual(Run(two, "f"), Run(two, "f", moves=0))
        turns = Program.from_lines("f: test done done")
        self.assertEqual(Run(turns, "f", (True,)), Run(turns, "f", (False,)))
        self.assertNotEqual(Run(TURNS, "main", (True,)), Run(TURNS, "main", (False,)))

    def test_texts(self):
        self.assertEqual(str(Run(INNER, "main", moves=30)), "30 moves, 11 events, cut")
        self.assertEqual(str(Run(TURNS, "f")), "1 moves, 0 events, end")
        self.assertEqual(str(Run(INNER, "f")), "2 moves, 0 events, stop")


class Arguments(unittest.TestCase):
    def test_worlds(self):
        for world in ((), (True,) * 200, (False,) * 200):
            self.assertEqual(Run(LOG, "main", world).world, world)
        for world in [(True,) * 201, (1,), (0,), [True], [], "10", None, True, ((True,),)]:
            with self.assertRaises(InvalidWorld):
                Run(LOG, "main", world, given=None, moves=None)

    def test_given_labels(self):
        program = Program.from_lines("main: then ask a then ask b ask c")
        for given in ((), ("a",), ("a", "c"), ("a", "b", "c")):
            self.assertEqual(Run(program, "main", given=given).given, given)
        for given in (("c", "a"), ("a", "a"), ("d",), ("a", "d"), ("a", "b", "c", "d"), ["a"], "a", "", None, True, (1,), (None,),
                      (("a",),), {"a": "a"}, ("a", 1), ((),)):
            with self.assertRaises(InvalidOperation):
                Run(program, "main", given=given, moves=None)
            with self.assertRaises(InvalidOperation):
                list(all_runs(program, "main", 1, given=given, moves=None))

    def test_moves(self):
        for moves in (0, 1, 2000, 20000):
            self.assertEqual(Run(Program.from_lines("main: call main"), "main", moves=moves).moves, moves)
        for moves in (-1, 20001, 10 ** 60, True, False, None, "5", (5,), 10 ** 99):
            for make in (lambda: Run(LOG, "main", moves=moves), lambda: list(all_runs(LOG, "main", 0, moves=moves))):
                with self.assertRaises(InvalidNumber) as caught:
                    make()
                self.assertIs(caught.exception.number, moves)

    def test_two_thousand_moves_if_nothing_else_is_told(self):
        forever = Program.from_lines("main: call main")
        self.assertEqual(Run(forever, "main").moves, 2000)
        self.assertEqual([run.moves for run in all_runs(forever, "main", 3)], [200])

    def test_the_first_wrong_argument_decides(self):
        wrong = ((lambda: Run(None, "f", None, given=None, moves=None), InvalidProgram),
                 (lambda: Run(LOG, "f", None, given=None, moves=None), UnknownName),
                 (lambda: Run(LOG, "main", None, moves=None, given=None), InvalidWorld),
                 (lambda: Run(LOG, "main", (), moves=None, given=None), InvalidOperation),
                 (lambda: Run(LOG, "main", (), moves=None), InvalidNumber),
                 (lambda: list(all_runs(None, "f", None, given=None, moves=None)), InvalidProgram),
                 (lambda: list(all_runs(LOG, "f", None, given=None, moves=None)), UnknownName),
                 (lambda: list(all_runs(LOG, "main", None, given=None, moves=None)), InvalidNumber),
                 (lambda: list(all_runs(LOG, "main", 0, given=None, moves=None)), InvalidOperation),
                 (lambda: list(all_runs(LOG, "main", 0, moves=None)), InvalidNumber))
        for make, kind in wrong:
            with self.assertRaises(kind):
                make()


class AllRuns(unittest.TestCase):
    def test_ascending_worlds(self):
        worlds = [run.world for run in all_runs(TURNS, "main", 12)]
        self.assertEqual(worlds, [(False, False), (False, True, False), (False, True, True), (True, False), (True, True, False),
                                  (True, True, True)])
        self.assertEqual(["".join(run.steps) for run in all_runs(TURNS, "main", 12)], ["bf", "bce", "bcd", "af", "ace", "acd"])
        self.assertEqual([run.world for run in all_runs(TURNS, "main", 2)], [(False, False), (True, False)])
        self.assertEqual([run.world for run in all_runs(TURNS, "main", 1)], [])

    def test_no_tests(self):
        self.assertEqual([run.world for run in all_runs(TURNS, "main", 0)], [])
        self.assertEqual([run.world for run in all_runs(TURNS, "f", 0)], [()])
        self.assertEqual([run.world for run in all_runs(TURNS, "main", 0, moves=1)], [()])
        self.assertEqual([run.end for run in all_runs(TURNS, "main", 0, moves=0)], [("cut",)])

    def test_twelve_tests(self):
        program = Program.from_lines("main: then call f then call f call f", "f: then call g call g",
                                     "g: then test step a step b test step c step d")
        runs = list(all_runs(program, "main", 12))
        self.assertEqual([run.world for run in runs], list(product((False, True), repeat=12)))
        self.assertEqual(runs[0].steps, tuple("bd" * 6))
        self.assertEqual(list(all_runs(program, "main", 11)), [])

    def test_cut_runs_use_up_what_has_begun(self):
        program = Program.from_lines("main: then test step a step b call main")
        self.assertEqual([run.world for run in all_runs(program, "main", 12, moves=2)],
                         [(False,), (True,)])
        self.assertEqual(len(list(all_runs(program, "main", 12, moves=17))), 16)
        self.assertEqual(list(all_runs(program, "main", 12)), [])

    def test_errors_come_when_the_first_element_is_requested(self):
        for make in (lambda: all_runs(None, "main", 1), lambda: all_runs(LOG, "f", 1), lambda: all_runs(LOG, "main", 13),
                     lambda: all_runs(LOG, "main", 1, given=None), lambda: all_runs(LOG, "main", 1, moves=-1)):
            generator = make()
            with self.assertRaises((InvalidProgram, UnknownName, InvalidNumber, InvalidOperation)):
                next(generator)

    def test_wrong_numbers_of_tests(self):
        for tests in (-1, 13, True, False, None, "1", (1,), 10 ** 60, [], {}):
            with self.assertRaises(InvalidNumber) as caught:
                next(all_runs(LOG, "main", tests))
            self.assertIs(caught.exception.number, tests)


if __name__ == "__main__":
    unittest.main()
