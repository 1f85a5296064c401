"""Runs of random programs, compared with a second, plain reading of the document."""

import random
import unittest
from itertools import product

from restwise.base.programs import Program
from restwise.run.runs import Run, all_runs
from tests.making import EXAMPLES, Chance
from tests.plain_runs import PlainRun


def told(run):
    return (tuple(run.row), run.end, run.moves, run.tests, tuple(run.asked), tuple(sorted(run.places)), tuple(run.steps))


class Compared(unittest.TestCase):
    def compare(self, program, name, world, given, moves):
        run = Run(program, name, world, given=given, moves=moves)
        self.assertEqual(told(run), told(PlainRun(program, name, world, given, moves)), (program.lines, name, world, given))
        return run

    def test_random_programs(self):
        words = {}
        for seed in range(220):
            chance = Chance(seed, labels=("a", "b", "c")[:1 + seed % 3], doubling=0.5)
            program = chance.program(6 + seed % 20)
            for name in list(program) * 2:
                world = tuple(chance.random.random() < 0.5 for _ in range(chance.random.randrange(12)))
                given = tuple(label for label in program.labels if chance.random.random() < 0.4)
                run = self.compare(program, name, world, given, chance.random.choice([200, 60, chance.random.randrange(40)]))
                for event in run:
                    words[event[0]] = words.get(event[0], 0) + 1
                    if event[0] == "rest" and event[2] > 1:
                        words["again"] = words.get("again", 0) + 1
        for word in ("step", "open", "close", "last", "ask", "rest", "ended", "behind", "drop", "lost", "shared", "left", "again"):
            self.assertGreater(words.get(word, 0), 5, words)

    def test_pieces_of_pieces_with_holds(self):
        chance = random.Random(7)
        clauses = ["ask a", "ask b", "then ask b rest", "then ask a rest", "rest", "done", "then rest step p",
                   "test rest done", "test ask b rest", "then ask a then rest step q"]
        shared = 0
        for _ in range(250):
            f = f"handle b: hold then ask {chance.choice('ab')} ask {chance.choice('ab')} done {chance.choice(clauses)}"
            g = f"handle a: hold then call f hold ask {chance.choice('ab')} done {chance.choice(clauses)}"
            main = f"handle a b: then call g call f step p {chance.choice(clauses[4:8])} {chance.choice(['rest', 'test done rest'])}"
            twice = f"handle a b: then call g call f done then rest rest {chance.choice(['rest', 'then rest rest', 'done'])}"
            program = Program.from_lines(f"f: {f}", f"g: {g}", f"main: {main}", f"two: {twice}")
            world = tuple(chance.random() < 0.5 for _ in range(9))
            for name in program:
                run = self.compare(program, name, world, (), 400)
                shared += len([event for event in run if event[0] == "shared"])
        self.assertGreater(shared, 300)

    def test_examples_cut_at_each_place(self):
        for program in EXAMPLES.values():
            for name in program:
                for moves in range(30):
                    self.compare(program, name, (), program.labels[:1], moves)


class AllRuns(unittest.TestCase):
    def plain(self, program, name, tests, given, moves):
        """The worlds by trying all."""
        worlds = [world for many in range(tests + 1) for world in product((False, True), repeat=many)
                  if PlainRun(program, name, world, given, moves).tests == many]
        return sorted(worlds)

    def test_just_the_worlds_that_are_used_up(self):
        for seed in range(60):
            chance = Chance(seed, labels=("a", "b"), holds=0)
            program = chance.program(16)
            for name in program:
                for tests, moves in ((0, 60), (3, 60), (5, 25)):
                    runs = list(all_runs(program, name, tests, given=("a",) if "a" in program.labels else (), moves=moves))
                    given = ("a",) if "a" in program.labels else ()
                    self.assertEqual([run.world for run in runs], self.plain(program, name, tests, given, moves))
                    for run in runs:
                        self.assertEqual(run, Run(program, name, run.world, given=given, moves=moves))
                        self.assertEqual(told(run), told(PlainRun(program, name, run.world, given, moves)))
                        self.assertEqual((run.tests, run.program, run.name, run.given), (len(run.world), program, name, given))


if __name__ == "__main__":
    unittest.main()
