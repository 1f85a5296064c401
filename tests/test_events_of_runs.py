"""[10.4], [0.20]: what standings tell is what runs do."""

import random
import unittest

from restwise.around.shown import happens_in
from restwise.around.standings import Standings
from restwise.base.programs import Program
from restwise.run.runs import Run
from tests.making import EXAMPLES, Chance, random_programs
from tests.plain_standings import all_events
from tests.told_events import events_of_run, events_told, random_run

ENDING = (
    ("f: then ask a ask b", "main: handle a b: call f step p test rest done test then rest step q done"),
    ("f: test ask a test ask b done", "g: handle a: call f step l then ask b rest", "main: handle b: call g done test rest done"),
    ("f: hold then ask a ask a", "main: handle a b: test call f ask b done then rest test rest step p done"),
    ("f: then ask a ask b", "main: handle b: handle a: call f done then rest step p done test then rest step q done"),
    ("f: then ask a ask b", "main: handle a: handle b: call f done then rest step p done test then rest step q done"),
    ("f: ask a", "g: handle b: call f handle a: call f done rest then ask a rest", "main: handle a: test call g ask b done test rest done"),
    ("f: then ask c then ask a ask b", "main: handle a b: call f ask c test rest done then ask a rest", "out: handle c: call main done done"),
    ("main: handle a: then ask a step p done then rest test rest then rest rest",),
    ("main: handle a b: then test ask a ask b ask b done then rest test rest done test then rest step z done",),
    ("f: then ask a ask a", "main: handle a: call f test done handle b: then ask b step p done then rest rest then rest step q"),
)


class Compared(unittest.TestCase):
    def compare(self, program, tests=6, moves=250):
        """How many functions have only runs that end within the bounds; all is compared for them."""
        many = 0
        for name in program:
            told = set(Standings(program, name).events)
            found, is_all = events_told(program, name, tests, moves)
            self.assertEqual(found - told, set(), (program.lines, name))
            if is_all:
                self.assertEqual(told - found, set(), (program.lines, name))
                many += 1
        return many

    def test_examples(self):
        for program in EXAMPLES.values():
            self.compare(program)

    def test_programs_whose_runs_end(self):
        for lines in ENDING:
            program = Program.from_lines(*lines)
            self.assertEqual(self.compare(program, tests=8), len(program), lines)

    def test_random_programs(self):
        whole = 0
        for seed in range(600):
            names = ("f", "g", "loop", "main")[seed % 3:]
            chance = Chance(seed, labels=("a", "b", "c")[:1 + seed % 3], names=names, doubling=0.5)
            whole += self.compare(chance.program(5 + seed % 20), tests=5, moves=120)
        self.assertGreater(whole, 200)

    def test_long_runs_of_random_programs(self):
        words = {}
        for seed in range(300):
            chance = random.Random(seed)
            program = random_programs(seed, 1, 8 + seed % 28, labels=("a", "b", "c")[:1 + seed % 3], doubling=chance.choice((0.2, 0.8)))[0]
            for name in program:
                told = set(Standings(program, name).events)
                for _ in range(4):
                    found = events_of_run(random_run(chance, program, name))
                    self.assertEqual(found - told, set(), (program.lines, name))
                    for event in found:
                        words[event[0]] = words.get(event[0], 0) + 1
        for word in ("come", "ask", "stop", "rest", "ended", "behind", "again", "drop"):
            self.assertGreater(words[word], 10, words)


class Happens(unittest.TestCase):
    def test_each_event_of_random_runs(self):
        for seed in range(150):
            chance = random.Random(seed)
            program = random_programs(seed, 1, 6 + seed % 24, labels=("a", "b"), doubling=0.6)[0]
            for name in program:
                run = random_run(chance, program, name)
                found = events_of_run(run)
                for event in all_events(program):
                    self.assertEqual(happens_in(run, event), event in found, (program.lines, name, event))

    def test_given_labels(self):
        program = Program.from_lines("main: then ask a ask b")
        run = Run(program, "main", given=("a",))
        told = [event for event in all_events(program) if happens_in(run, event)]
        self.assertEqual(told, [("come", ("main", 0)), ("come", ("main", 1)), ("come", ("main", 2)), ("stop", ("main", 2))])

    def test_again_is_told_of_the_rest_ahead_of_a_further_one(self):
        program = Program.from_lines("main: handle a: then ask a step p done then rest test rest then rest rest")
        for world, again in (((True,), [6]), ((False,), [6, 10])):
            run = Run(program, "main", world)
            told = [event[1][1] for event in all_events(program) if event[0] == "again" and happens_in(run, event)]
            self.assertEqual(told, again)

    def test_again_within_clauses_of_others(self):
        program = Program.from_lines("main: handle a: then ask a step p done then rest then handle b: ask b done then rest rest rest")
        run = Run(program, "main")
        told = [event[1] for event in all_events(program) if event[0] == "again" and happens_in(run, event)]
        rests = program.rests
        self.assertEqual(told, [rests[0], rests[1]])
        self.assertEqual(events_of_run(run) & {("again", rest) for rest in rests}, {("again", rests[0]), ("again", rests[1])})


if __name__ == "__main__":
    unittest.main()
