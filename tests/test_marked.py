"""Markings, and runs under markings [0.15]."""

import random
import unittest

from restwise.base.programs import Program
from restwise.errors import InvalidMarking, InvalidNumber, InvalidOperation, InvalidProgram, UnknownPlace
from restwise.run.marked import MARKS, Marked, Marking
from restwise.run.runs import Run, all_runs
from tests.making import FLIP, INNER, LOG, LOSE, OUTER, random_programs
from tests.values import every_kind

INSIDE, OUTSIDE = ("in", 3), ("main", 3)
MIXED = Marking(INNER, {INSIDE: "copy", OUTSIDE: "jump"})
PLAIN = Program.from_lines("main: then step s hold done")


class Markings(unittest.TestCase):
    def test_marks(self):
        self.assertEqual(MIXED.marks, {INSIDE: "copy", OUTSIDE: "jump"})
        self.assertEqual(list(Marking(INNER, {OUTSIDE: "move", INSIDE: "place"}).marks), [INSIDE, OUTSIDE])
        self.assertEqual(MIXED.program, INNER)
        self.assertEqual([MIXED[INSIDE], MIXED[OUTSIDE]], ["copy", "jump"])

    def test_wrong_marks(self):
        wrong = [{}, {INSIDE: "copy"}, {INSIDE: "copy", OUTSIDE: "jump", ("main", 4): "move"}, {INSIDE: "copy", ("main", 4): "jump"},
                 {INSIDE: "copy", OUTSIDE: "Jump"}, {INSIDE: "copy", OUTSIDE: None}, {INSIDE: "copy", OUTSIDE: 1},
                 {INSIDE: "copy", OUTSIDE: ["jump"]}, {INSIDE: "copy", OUTSIDE: ("jump",)}, {INSIDE: "copy", OUTSIDE: ""},
                 {INSIDE: "copy", "main": "jump"}, {INSIDE: "copy", None: "jump"}, [(INSIDE, "copy"), (OUTSIDE, "jump")], MIXED]
        for marks in wrong + every_kind():
            with self.assertRaises(InvalidMarking):
                Marking(INNER, marks)
            with self.assertRaises(InvalidProgram):
                Marking(None, marks)

    def test_the_dicts_that_are_passed_and_handed_out(self):
        marks = {INSIDE: "copy", OUTSIDE: "jump"}
        marking = Marking(INNER, marks)
        marks[INSIDE] = "place"
        marking.marks[OUTSIDE] = "place"
        self.assertEqual(marking, MIXED)

    def test_uniform(self):
        for mark in MARKS:
            self.assertEqual(Marking.uniform(INNER, mark).marks, {INSIDE: mark, OUTSIDE: mark})
            self.assertEqual(Marking.uniform(PLAIN, mark).marks, {})
        for mark in every_kind() + ["Place", "pla", "copy ", ("copy",)]:
            for program in (INNER, PLAIN):
                with self.assertRaises(InvalidMarking):
                    Marking.uniform(program, mark)
            with self.assertRaises(InvalidProgram):
                Marking.uniform(None, mark)

    def test_with_mark(self):
        self.assertEqual(MIXED.with_mark(OUTSIDE, "move").marks, {INSIDE: "copy", OUTSIDE: "move"})
        self.assertEqual(MIXED.with_mark(OUTSIDE, "jump"), MIXED)
        self.assertEqual(MIXED.marks, {INSIDE: "copy", OUTSIDE: "jump"})
        for mark in every_kind() + ["Move"]:
            with self.assertRaises(InvalidMarking):
                MIXED.with_mark(OUTSIDE, mark)

    def test_places_that_are_no_clauses(self):
        for clause in every_kind() + [("main", 0), ("main", 4), ("main", 30), ("f", 3), ["main", 3], ("main", "3"), ("main", 3, 3),
                                      ("in", True), ("in", -1)]:
            for call in (lambda: MIXED[clause], lambda: MIXED.with_mark(clause, None), lambda: MIXED.with_mark(clause, "move")):
                with self.assertRaises(UnknownPlace) as caught:
                    call()
                self.assertIs(caught.exception.spot, clause)
        with self.assertRaises(UnknownPlace):
            Marking.uniform(PLAIN, "copy")[("main", 0)]

    def test_lower_and_higher_marks(self):
        for number, one in enumerate(MARKS):
            for later, other in enumerate(MARKS):
                mine = Marking(INNER, {INSIDE: one, OUTSIDE: "move"})
                others = Marking(INNER, {INSIDE: other, OUTSIDE: "jump"})
                self.assertEqual((mine & others).marks, {INSIDE: MARKS[min(number, later)], OUTSIDE: "jump"})
                self.assertEqual((mine | others).marks, {INSIDE: MARKS[max(number, later)], OUTSIDE: "move"})
                self.assertIs(mine.is_lower(others), False)
                self.assertIs(others.is_lower(mine), later <= number)
        self.assertIs(MIXED.is_lower(MIXED), True)

    def test_other_operands(self):
        for other in every_kind() + [Marking.uniform(OUTER, "copy"), MIXED.marks, Marking.uniform(PLAIN, "copy")]:
            for make in (lambda: MIXED & other, lambda: MIXED | other):
                with self.assertRaises(InvalidOperation):
                    make()
            self.assertIs(MIXED.is_lower(other), False)
        again = Marking.uniform(Program.from_lines(*INNER.lines), "copy")
        self.assertEqual(MIXED | again, Marking.uniform(INNER, "copy"))
        self.assertIs(MIXED.is_lower(again), True)

    def test_sequence(self):
        self.assertEqual((list(MIXED), len(MIXED)), ([INSIDE, OUTSIDE], 2))
        self.assertEqual((list(Marking.uniform(PLAIN, "move")), len(Marking.uniform(PLAIN, "move"))), ([], 0))

    def test_equality_and_texts(self):
        self.assertEqual(MIXED, Marking(Program.from_lines(*INNER.lines), {OUTSIDE: "jump", INSIDE: "copy"}))
        self.assertNotEqual(MIXED, MIXED.with_mark(INSIDE, "move"))
        self.assertNotEqual(Marking.uniform(INNER, "copy"), Marking.uniform(OUTER, "copy"))
        self.assertNotEqual(MIXED, MIXED.marks)
        self.assertEqual(str(MIXED), "0 place, 1 jump, 0 move, 1 copy")
        self.assertEqual(str(Marking.uniform(INNER, "place")), "2 place, 0 jump, 0 move, 0 copy")
        self.assertEqual(str(Marking.uniform(PLAIN, "place")), "0 place, 0 jump, 0 move, 0 copy")


def told(lines, mark, world=(), name="main", **more):
    program = Program.from_lines(*lines)
    return Marked(Run(program, name, world, **more), Marking.uniform(program, mark))


class Broken(unittest.TestCase):
    DROP = ("main: handle a: then ask a done step p step q",)
    ONCE = ("main: handle a: then ask a step p done then step q rest",)
    BEHIND = ("main: handle a: ask a done then rest step q",)
    TWICE = ("main: handle a: ask a done then rest then done rest",)

    def test_place_breaks_by_a_drop_and_behind_a_rest(self):
        broken = {name: told(getattr(self, name), "place").broken for name in ("DROP", "ONCE", "BEHIND", "TWICE")}
        self.assertEqual(broken, {"DROP": (2, ("main", 5)), "ONCE": None, "BEHIND": (4, ("main", 3)), "TWICE": (4, ("main", 3))})
        self.assertEqual([told(self.DROP, "place").run[2], told(self.BEHIND, "place").run[4]],
                         [("drop", ("main", 5)), ("behind", ("main", 4))])

    def test_place_does_not_break_by_done_and_then_behind_a_rest(self):
        self.assertIsNone(told(("main: handle a: ask a done then rest then done done",), "place").broken)

    def test_jump_breaks_by_a_rest(self):
        broken = {name: told(getattr(self, name), "jump").broken for name in ("DROP", "ONCE", "BEHIND", "TWICE")}
        self.assertEqual(broken, {"DROP": None, "ONCE": (2, ("main", 5)), "BEHIND": (1, ("main", 3)), "TWICE": (1, ("main", 3))})

    def test_move_breaks_by_a_second_rest(self):
        broken = {name: told(getattr(self, name), "move").broken for name in ("DROP", "ONCE", "BEHIND", "TWICE")}
        self.assertEqual(broken, {"DROP": None, "ONCE": None, "BEHIND": None, "TWICE": (5, ("main", 3))})
        self.assertEqual(told(self.TWICE, "move").run[5], ("rest", ("main", 7), 2))

    def test_copy_never_breaks(self):
        for name in ("DROP", "ONCE", "BEHIND", "TWICE"):
            self.assertIsNone(told(getattr(self, name), "copy").broken)

    def test_several_clauses_break_by_their_own_marks(self):
        run = Run(INNER, "main", moves=60)
        self.assertEqual(run.first(("rest", ("main", 4), 1)), 3)
        for inside, outside, broken in (("copy", "copy", None), ("copy", "jump", (3, OUTSIDE)), ("jump", "copy", (1, INSIDE)),
                                        ("place", "move", (6, INSIDE)), ("move", "place", (10, OUTSIDE)), ("move", "move", None),
                                        ("place", "place", (6, INSIDE)), ("place", "jump", (3, OUTSIDE))):
            marked = Marked(run, Marking(INNER, {INSIDE: inside, OUTSIDE: outside}))
            self.assertEqual(marked.broken, broken, (inside, outside))

    def test_runs_that_stop_or_are_cut(self):
        stops = ("main: handle a: ask a done then ask b rest",)
        self.assertEqual([told(stops, mark).broken for mark in MARKS], [None] * 4)
        self.assertEqual([told(stops, mark).deeds for mark in MARKS], [0, 1, 1, 1])
        self.assertEqual([told(self.BEHIND, mark, moves=3).broken for mark in MARKS], [None] * 4)
        self.assertEqual([told(self.BEHIND, mark, moves=4).broken for mark in MARKS], [None, (1, ("main", 3)), None, None])
        self.assertEqual([told(self.BEHIND, mark, moves=0).deeds for mark in MARKS], [0] * 4)

    def test_programs_without_a_clause(self):
        marked = told(PLAIN.lines, "copy")
        self.assertEqual((marked.broken, marked.deeds, marked.costs, marked.deeds_ahead(3)), (None, 0, {}, 0))

    def test_given_asks_are_no_answers(self):
        marked = told(("main: then ask a handle a: ask a done rest",), "copy", given=("a",))
        self.assertEqual((marked.deeds, marked.costs), (3, {("main", 5): 3}))


class Deeds(unittest.TestCase):
    def test_deeds_ahead_of_each_event(self):
        marked = told(("main: handle a: then ask a step p done then step q then rest rest",), "copy")
        self.assertEqual([event[0] for event in marked.run],
                         ["ask", "step", "rest", "step", "last", "ended", "behind", "rest", "step", "last", "ended"])
        self.assertEqual([marked.deeds_ahead(index) for index in range(12)], [0, 1, 1, 3, 3, 3, 3, 3, 5, 5, 5, 5])
        self.assertEqual(marked.deeds, 5)

    def test_deeds_up_to_the_break(self):
        marked = Marked(Run(FLIP, "main"), Marking.uniform(FLIP, "move"))
        self.assertEqual((marked.broken, marked.deeds), ((6, ("main", 5)), 2))
        self.assertEqual([marked.deeds_ahead(index) for index in range(7)], [0, 1, 2, 2, 2, 2, 2])
        marked = Marked(Run(FLIP, "main"), Marking.uniform(FLIP, "jump"))
        self.assertEqual((marked.broken, marked.deeds, marked.deeds_ahead(1)), ((1, ("main", 5)), 1, 1))

    def test_wrong_indices(self):
        whole, broken = told(Broken.DROP, "copy"), told(Broken.DROP, "place")
        for marked, most in ((whole, len(whole.run)), (broken, 2)):
            self.assertEqual(marked.deeds_ahead(most), marked.deeds)
            for index in (-1, most + 1, True, None, "0", (0,), 10 ** 60, [0], {}):
                with self.assertRaises(InvalidNumber) as caught:
                    marked.deeds_ahead(index)
                self.assertIs(caught.exception.number, index)

    def test_costs(self):
        run = Run(INNER, "main", moves=60)
        marked = Marked(run, Marking(INNER, {INSIDE: "copy", OUTSIDE: "move"}))
        self.assertEqual((marked.costs, marked.deeds), ({INSIDE: 3, OUTSIDE: 2}, 5))
        marked = Marked(run, Marking(INNER, {INSIDE: "copy", OUTSIDE: "jump"}))
        self.assertEqual((marked.costs, marked.deeds), ({INSIDE: 3, OUTSIDE: 1}, 4))
        marked.costs[INSIDE] = 9
        self.assertEqual(list(marked.costs.items()), [(INSIDE, 3), (OUTSIDE, 1)])

    def test_properties_equality_and_texts(self):
        run, marking = Run(FLIP, "main"), Marking.uniform(FLIP, "move")
        marked = Marked(run, marking)
        self.assertEqual((marked.run, marked.marking), (run, marking))
        self.assertEqual(marked, Marked(Run(FLIP, "main", (True,)), Marking.uniform(FLIP, "move")))
        self.assertNotEqual(marked, Marked(run, Marking.uniform(FLIP, "copy")))
        self.assertNotEqual(marked, Marked(Run(FLIP, "main", moves=4), marking))
        self.assertEqual([str(Marked(run, Marking.uniform(FLIP, mark))) for mark in MARKS],
                         ["0 deeds, broken at 5", "1 deeds, broken at 1", "2 deeds, broken at 6", "5 deeds, not broken"])

    def test_wrong_arguments(self):
        marking = Marking.uniform(LOG, "copy")
        for run in every_kind():
            if not isinstance(run, Run):
                with self.assertRaises(InvalidOperation):
                    Marked(run, None)
        for value in every_kind() + [Marking.uniform(FLIP, "copy"), marking.marks]:
            if not isinstance(value, Marking) or value.program != LOG:
                with self.assertRaises(InvalidMarking):
                    Marked(Run(LOG, "main"), value)
        again = Program.from_lines(*LOG.lines)
        self.assertEqual(Marked(Run(again, "main"), marking), Marked(Run(LOG, "main"), marking))


def plainly(run, marking):
    """The break, the deeds ahead of each event and the costs by a plain walk over the row."""
    program, deeds, costs = run.program, [0], {clause: 0 for clause in run.program.clauses}
    for index, event in enumerate(run.row):
        clause, many, breaks = None, 0, False
        if event[0] == "ask" and event[2] != ():
            label = program.node(event[1])[1]
            clause = program.clause(event[2], label)
            many = {"place": 0, "jump": 1, "move": 1, "copy": 1}[marking[clause]]
        if event[0] in ("rest", "behind"):
            name, at = event[1]
            clause = (name, program[name].owner(at))
        if event[0] == "drop":
            clause = event[1]
        mark = marking[clause] if clause else None
        if event[0] == "rest":
            many = {"place": 0, "jump": 0, "move": 1, "copy": 2}[mark]
            breaks = mark == "jump" or (mark == "move" and event[2] > 1)
        if event[0] in ("drop", "behind"):
            breaks = mark == "place"
        if breaks:
            return (index, clause), deeds, costs
        deeds.append(deeds[-1] + many)
        if clause:
            costs[clause] += many
    return None, deeds, costs


class Compared(unittest.TestCase):
    def test_random_runs_and_markings(self):
        chance = random.Random(4)
        breaks = 0
        for program in random_programs(21, 160, 14, doubling=0.6) + [LOSE]:
            for name in program:
                for run in list(all_runs(program, name, 4, moves=120))[:4]:
                    marking = Marking(program, {clause: chance.choice(MARKS) for clause in program.clauses})
                    marked = Marked(run, marking)
                    broken, deeds, costs = plainly(run, marking)
                    self.assertEqual((marked.broken, marked.deeds, marked.costs), (broken, deeds[-1], costs))
                    self.assertEqual([marked.deeds_ahead(index) for index in range(len(deeds))], deeds)
                    breaks += broken is not None
        self.assertGreater(breaks, 80)


if __name__ == "__main__":
    unittest.main()
