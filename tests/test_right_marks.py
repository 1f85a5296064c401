"""[11.1], [0.15], [0.21]: right marks, compared with runs under markings."""

import random
import unittest
from itertools import product

from restwise.around.marks import Marks, alike_paper, is_alike_paper
from restwise.around.shown import run_to
from restwise.around.standings import Standings
from restwise.base.programs import Program
from restwise.errors import InvalidMarking, InvalidOperation, UnknownPlace
from restwise.need.families import END
from restwise.need.rules import least_table
from restwise.need.tables import Table
from restwise.run.marked import MARKS, Marked, Marking
from restwise.run.runs import Run, all_runs
from tests import plain_standings
from tests.making import EXAMPLES, FLIP, INNER, LOG, LOSE, OUTER, Chance, random_programs
from tests.test_closed_sets import ascending
from tests.values import every_kind

AGAINST = {"place": ("drop", "behind"), "jump": ("rest",), "move": ("again",), "copy": ()}


def clause_of(program, event):
    return event[1] if event[0] == "drop" else (event[1][0], program[event[1][0]].owner(event[1][1]))


def programs(many, size):
    for seed in range(many):
        yield Chance(seed, labels=("a", "b", "c")[:1 + seed % 3], names=("f", "g", "loop", "main")[seed % 3:], doubling=0.6).program(5 + seed % size)


def markings(chance, program, many):
    for _ in range(many):
        yield Marking(program, {clause: chance.choice(MARKS) for clause in program.clauses})


class Right(unittest.TestCase):
    def test_what_the_events_tell(self):
        for program in programs(150, 20):
            for name in program:
                marks, events = Marks(program, name), Standings(program, name).events
                for clause in program.clauses:
                    right = []
                    for mark in MARKS:
                        wrong = tuple(event for event in events if event[0] in AGAINST[mark] and clause_of(program, event) == clause)
                        self.assertEqual(marks.against(clause, mark), wrong)
                        right += [] if wrong else [mark]
                    self.assertEqual(marks.right(clause), tuple(right))
                    self.assertEqual(marks[clause], right[0])
                self.assertEqual(marks.least.marks, {clause: marks[clause] for clause in program.clauses})
                self.assertEqual((tuple(marks), len(marks), str(marks)), (program.clauses, len(program.clauses), str(marks.least)))
                self.assertEqual(marks.standings, Standings(program, name))

    def test_a_right_mark_breaks_in_no_run(self):
        broken = 0
        for number, program in enumerate(programs(400, 20)):
            chance = random.Random(number)
            for name in program:
                marks = Marks(program, name)
                runs = list(all_runs(program, name, 4, moves=90))[:20]
                for marking in markings(chance, program, 4):
                    for run in runs:
                        told = Marked(run, marking).broken
                        if told is not None:
                            broken += 1
                            self.assertIn(told[1], marks.wrong(marking), (program.lines, name))
                for run in runs:
                    self.assertIsNone(Marked(run, marks.least).broken)
        self.assertGreater(broken, 300)

    def test_a_wrong_mark_breaks_in_some_run(self):
        many = 0
        for program in programs(450, 24):
            for name in program:
                marks = Marks(program, name)
                for clause, mark in product(program.clauses, MARKS):
                    if mark not in marks.right(clause):
                        run = run_to(program, name, marks.against(clause, mark)[0])
                        marking = Marking.uniform(program, "copy").with_mark(clause, mark)
                        self.assertEqual(Marked(run, marking).broken[1], clause, (program.lines, name, clause, mark))
                        many += 1
        self.assertGreater(many, 300)

    def test_the_least_marking_makes_the_fewest_deeds(self):
        many = 0
        for number, program in enumerate(programs(120, 16)):
            chance = random.Random(number)
            for name in program:
                marks = Marks(program, name)
                alike = [marks.mended(marking) for marking in markings(chance, program, 4)]
                for run in list(all_runs(program, name, 4, moves=80))[:10]:
                    least = Marked(run, marks.least)
                    for marking in alike:
                        other = Marked(run, marking)
                        self.assertIsNone(other.broken)
                        for index in range(len(run) + 1):
                            self.assertLessEqual(least.deeds_ahead(index), other.deeds_ahead(index))
                        many += least.deeds < other.deeds
        self.assertGreater(many, 50)


class Markings(unittest.TestCase):
    def test_alike_wrong_and_mended(self):
        for number, program in enumerate(programs(80, 18)):
            chance = random.Random(number)
            for name in program:
                marks = Marks(program, name)
                for marking in markings(chance, program, 5):
                    wrong = tuple(clause for clause in program.clauses if marking[clause] not in marks.right(clause))
                    self.assertEqual(marks.wrong(marking), wrong)
                    self.assertEqual(marks.is_alike(marking), wrong == ())
                    mended = marks.mended(marking)
                    for clause in program.clauses:
                        higher = [mark for mark in marks.right(clause) if MARKS.index(mark) >= MARKS.index(marking[clause])]
                        self.assertEqual(mended[clause], higher[0])
                    self.assertTrue(marks.is_alike(mended))
                    self.assertTrue(marking.is_lower(mended))

    def test_a_right_mark_with_a_wrong_one_above(self):
        marks = Marks(LOG, "main")
        self.assertEqual(marks.right(("main", 9)), ("place", "move", "copy"))
        self.assertEqual(marks.mended(Marking.uniform(LOG, "jump")), Marking.uniform(LOG, "move"))
        self.assertEqual(marks.mended(Marking.uniform(LOG, "place")), Marking.uniform(LOG, "place"))

    def test_examples(self):
        self.assertEqual(Marks(LOSE, "main").least.marks, {("main", 3): "jump", ("mid", 4): "place"})
        self.assertEqual(Marks(LOSE, "mid").least.marks, {("main", 3): "place", ("mid", 4): "place"})
        self.assertEqual(Marks(OUTER, "main").right(("main", 3)), ("place", "move", "copy"))
        self.assertEqual(Marks(FLIP, "coin").right(("main", 5)), MARKS)

    def test_other_values(self):
        marks = Marks(LOG, "main")
        for value in every_kind() + [Marking.uniform(FLIP, "copy"), {("main", 9): "copy"}, Marked(Run(LOG, "main"), Marking.uniform(LOG, "copy"))]:
            self.assertFalse(marks.is_alike(value))
            for call in (marks.wrong, marks.mended):
                with self.assertRaises(InvalidMarking):
                    call(value)
            self.assertFalse(value in marks)
            self.assertFalse(marks == value)
            for call in (marks.right, lambda clause: marks[clause], lambda clause: marks.against(clause, "nope")):
                with self.assertRaises(UnknownPlace) as caught:
                    call(value)
                self.assertIs(caught.exception.spot, value)
        self.assertTrue(marks.is_alike(Marking.uniform(Program.from_lines(*LOG.lines), "copy")))
        self.assertTrue(("main", 9) in marks)
        for place in (("main", 0), ("main", 11), ("main", 99)):
            self.assertFalse(place in marks)

    def test_equality(self):
        self.assertEqual(Marks(INNER, "main"), Marks(Program.from_lines(*INNER.lines), "main"))
        self.assertNotEqual(Marks(INNER, "main"), Marks(INNER, "in"))
        self.assertNotEqual(Marks(INNER, "main"), Marks(OUTER, "main"))

    def test_what_is_handed_out_is_not_shared(self):
        marks = Marks(LOG, "main")
        marks.least.marks.clear()
        self.assertEqual(marks.least.marks, {("main", 9): "place"})


class Papers(unittest.TestCase):
    def test_a_marking_has_a_paper_exactly_if_it_is_alike(self):
        right = 0
        for number, program in enumerate(programs(60, 14)):
            chance = random.Random(number)
            name = chance.choice(list(program))
            marks, standings = Marks(program, name), Standings(program, name)
            for marking in list(markings(chance, program, 3)) + [marks.least, Marking.uniform(program, "copy")]:
                if marks.is_alike(marking):
                    right += 1
                    self.assertTrue(is_alike_paper(program, name, marking, alike_paper(program, name, marking)))
                else:
                    with self.assertRaises(InvalidOperation):
                        alike_paper(program, name, marking)
                    paper = least_table(program), (standings.come, standings.ended)
                    self.assertFalse(is_alike_paper(program, name, marking, paper))
        self.assertGreater(right, 100)

    def test_papers_by_greater_tables(self):
        right = 0
        for seed in range(60):
            chance = random.Random(seed)
            program = random_programs(seed, 1, 5 + seed % 8, labels=("a", "b"), names=("loop", "main"), doubling=0.5)[0]
            table = Table(program).assuming(("loop", 0), ((), END)).rows
            come, ended = plain_standings.least_set(program, "main", table)
            told = plain_standings.events(program, table, come, ended)
            for marking in markings(chance, program, 4):
                wanted = not any(event[0] in AGAINST[mark] and clause_of(program, event) == clause for event in told
                                 if event[0] in ("drop", "behind", "rest", "again") for clause, mark in marking.marks.items())
                self.assertEqual(is_alike_paper(program, "main", marking, (table, ascending(come, ended))), wanted)
                right += wanted
        self.assertGreater(right, 40)

    def test_other_values(self):
        marking = Marks(OUTER, "main").least
        table, (come, ended) = alike_paper(OUTER, "main", marking)
        self.assertTrue(is_alike_paper(OUTER, "main", marking, (table, (come, ended))))
        for value in ((table,), [table, (come, ended)], (table, (come[1:], ended)), (least_table(INNER), (come, ended)), (Table(OUTER), (come, ended)),
                      (table, [come, ended]), (table, come, ended), (table, Standings(OUTER, "main"))):
            self.assertFalse(is_alike_paper(OUTER, "main", marking, value))
        for value in every_kind():
            self.assertFalse(is_alike_paper(OUTER, "main", marking, value))
            self.assertFalse(is_alike_paper(OUTER, "main", marking, (table, value)))
            self.assertFalse(is_alike_paper(OUTER, "main", marking, (value, (come, ended))))


if __name__ == "__main__":
    unittest.main()
