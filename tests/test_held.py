"""[0.14], [0.23], [13.2]: what can happen to what holds keep open, compared with runs."""

import random
import unittest

from restwise.around.held import can_be_left, can_be_lost, can_be_shared, event_in, held_events, open_places, watched
from restwise.around.shown import run_to
from restwise.around.standings import Standings
from restwise.base.programs import Program
from restwise.errors import InvalidOperation, InvalidProgram, TooMany, UnknownName, UnknownPlace
from restwise.run.runs import Run, all_runs
from tests.making import LOSE, Chance
from tests.test_speed_around import LONG_BODY, MORE, wide
from tests.values import every_kind

WORDS = ("left", "lost", "shared")
CALLS = {"left": can_be_left, "lost": can_be_lost, "shared": can_be_shared}
DROPS, GOES_ON, TWICE, NEVER = "done", "rest", "then rest rest", "call loop"
ENDING = (
    ("main: handle a: hold ask a done done",),
    ("main: handle a: hold ask a done rest",),
    ("main: handle a: hold ask a done then rest rest",),
    ("main: handle a: hold test ask a done done test rest test done then rest rest",),
    ("main: handle a: then hold step p ask a done done", "f: hold call main"),
    # A hold within a hold, in work, in clauses and in last parts.
    ("main: handle a: hold then hold ask a ask a done test rest done",),
    ("main: handle a: ask a hold ask b then hold ask b rest", "out: handle b: call main done test rest done"),
    ("main: handle a: ask a done then hold step p rest", "two: handle b: handle a: ask a done then hold ask b rest done test done rest"),
    ("main: handle a: ask a done then hold ask b rest", "out: handle b: hold call main hold step q test rest done"),
    # What is held by a clause that has not come to a rest.
    LOSE.lines,
    ("main: handle a: call mid done test rest done", "mid: handle b: hold ask b done then ask a then ask a rest"),
    ("f: handle b: hold ask b done then ask a rest", "main: handle a: handle c: call f done then ask c rest done test done rest"),
    # A hold that is shared by a clause further out.
    ("f: hold then ask a step p", "main: handle a: call f done then rest test rest done", "out: handle b: call main done rest"),
    ("f: handle b: hold ask b done then ask a rest", "main: handle a: call f done then rest rest"),
    ("f: handle b: hold ask b done then rest step p", "main: handle a: then call f ask a done then rest rest"),
    # Closed ahead of what is asked, and opened behind it.
    ("main: handle a: then hold step p then ask a hold step q done then rest rest",),
    ("main: handle a: then hold ask a ask a done test rest done",),
    # Code that opens one hold several times.
    ("f: hold ask a", "main: handle a: then call f then call f call f done test rest done", "two: handle a: then call f call f done then rest rest"),
)


def happened(run):
    return {(event[1], event[0]) for event in run.row if event[0] in WORDS}


def told(program, name):
    return {(place, word) for place, words in held_events(program, name).items() for word in words}


class Compared(unittest.TestCase):
    def compare(self, program, tests=6, moves=150):
        """What happens in the functions all of whose runs end; all is compared for them."""
        found_at = []
        for name in program:
            words = told(program, name)
            found, share, is_ending = set(), 0, True
            for run in all_runs(program, name, tests, moves=moves):
                found |= happened(run)
                share += 2 ** (tests - run.tests)
                is_ending = is_ending and run.end != ("cut",)
            self.assertEqual(found - words, set(), (program.lines, name))
            if is_ending and share == 2 ** tests:
                self.assertEqual(words - found, set(), (program.lines, name))
                found_at += sorted(found)
        return found_at

    def test_programs_whose_runs_end(self):
        found = []
        for lines in ENDING:
            found += self.compare(Program.from_lines(*lines), tests=8)
        self.assertEqual({word for _, word in found}, set(WORDS))

    def test_random_programs(self):
        many = {word: 0 for word in WORDS}
        for seed in range(420):
            names = ("f", "g", "loop", "main")[seed % 3:]
            program = Chance(seed, labels=("a", "b", "c")[:1 + seed % 3], names=names, doubling=(0.2, 0.8)[seed % 2], holds=4).program(4 + seed % 22)
            for _, word in self.compare(program, tests=5, moves=120):
                many[word] += 1
        self.assertGreater(many["left"], 100)

    def test_random_handles_around_holds(self):
        chance = random.Random(4)
        clauses = ["done", "rest", "then rest rest", "test rest done", "then ask b rest", "then ask a rest", "then rest step p", "call loop", "then rest call loop"]
        many = {word: 0 for word in WORDS}
        for _ in range(500):
            inner = f"handle {chance.choice('ab')}: {chance.choice(['hold ask a', 'hold then ask a ask b', 'then hold ask b ask a', 'hold hold ask b'])} done {chance.choice(clauses[:6])}"
            main = f"handle a b: {chance.choice(['call f', 'hold call f', 'then call f hold ask a'])} done {chance.choice(clauses[:4])} {chance.choice(clauses[:4] + clauses[6:])}"
            try:
                program = Program.from_lines("loop: call loop", f"f: {inner}", f"main: {main}")
            except InvalidProgram:
                continue
            for _, word in self.compare(program, tests=6):
                many[word] += 1
        self.assertTrue(all(count > 20 for count in many.values()), many)

    def test_long_runs(self):
        many = 0
        for seed in range(150):
            chance = random.Random(seed)
            program = Chance(seed, labels=("a", "b"), names=("f", "g", "main"), doubling=0.7, holds=3).program(8 + seed % 24)
            for name in program:
                words = told(program, name)
                for _ in range(4):
                    run = Run(program, name, tuple(chance.random() < 0.5 for _ in range(30)), moves=400)
                    self.assertEqual(happened(run) - words, set(), (program.lines, name))
                    many += len(happened(run))
        self.assertGreater(many, 100)


class Words(unittest.TestCase):
    def held(self, *clauses):
        lines = [f"{name}: handle a: hold ask a done {clause}" for name, clause in zip(("f", "g", "h", "i"), clauses)]
        program = Program.from_lines("loop: call loop", *lines)
        return [held_events(program, name)[(name, 1)] for name in program.names if name != "loop"]

    def test_each_kind_of_clause(self):
        self.assertEqual(self.held(DROPS, GOES_ON, TWICE, NEVER), [("lost",), (), ("shared",), ()])
        self.assertEqual(self.held("test done rest", "test rest call loop", "then rest call loop", "test done then rest rest"),
                         [("lost",), (), (), ("lost", "shared")])

    def test_what_never_ends_is_not_shared(self):
        program = Program.from_lines("loop: call loop", "main: handle a: hold then ask a call loop done then rest rest")
        self.assertEqual(held_events(program, "main"), {("main", 1): ()})

    def test_a_hold_whose_asks_all_go_on_can_be_lost(self):
        # [0.24]: the clause of the hold's ask has a rest.
        self.assertTrue(can_be_lost(LOSE, "main", ("mid", 1)))
        self.assertEqual([event for event in Standings(LOSE, "main").answers(("mid", 2))], [("mid", 0)])

    def test_left_in_what_a_clause_holds(self):
        self.assertEqual(held_events(LOSE, "mid"), {("mid", 1): ("left",)})
        program = Program.from_lines("main: handle a: hold ask a done then ask b rest", "two: handle a: then hold ask a ask b done rest")
        self.assertEqual((held_events(program, "main")[("main", 1)], held_events(program, "two")[("two", 2)]), (("left",), ()))

    def test_programs_without_holds(self):
        program = Program.from_lines("main: handle a: ask a done rest")
        self.assertEqual(held_events(program, "main"), {})

    def test_all_holds_are_told_ascending(self):
        program = Program.from_lines("b: hold hold ask a", "a: then hold done hold call b", "main: handle a: call a done done")
        words = held_events(program, "main")
        self.assertEqual(list(words), list(program.holds))
        self.assertEqual(words, {("a", 1): (), ("a", 3): ("lost",), ("b", 0): ("lost",), ("b", 1): ("lost",)})
        self.assertEqual(held_events(program, "b"), {("a", 1): (), ("a", 3): (), ("b", 0): ("left",), ("b", 1): ("left",)})


class Events(unittest.TestCase):
    def test_an_event_for_each_word(self):
        many = 0
        programs = [Program.from_lines(*lines) for lines in ENDING]
        programs += [Chance(seed, labels=("a", "b"), names=("f", "loop", "main"), doubling=0.6, holds=4).program(4 + seed % 16) for seed in range(60)]
        for program in programs:
            for name in program:
                words = held_events(program, name)
                for place in program.holds:
                    made, opened = watched(program, place), open_places(program, place)
                    for word in WORDS:
                        self.assertEqual(CALLS[word](program, name, place), word in words[place])
                        event = event_in(program, name, place, word)
                        self.assertEqual(event is not None, word in words[place], (program.lines, name, place, word))
                        if event is not None:
                            self.check_event(made, opened, name, word, event)
                            many += 1
        self.assertGreater(many, 60)

    def check_event(self, made, opened, name, word, event):
        self.assertIn(event, Standings(made, name))
        self.assertEqual(event[0], {"left": "stop", "lost": "drop", "shared": "again"}[word])
        if word == "left":
            self.assertIn(event[1], opened)
            return
        clause = event[1] if word == "lost" else (event[1][0], made[event[1][0]].owner(event[1][1]))
        handle = [spot for spot in made.handles if spot[0] == clause[0] and clause[1] in made[clause[0]].children(spot[1])[2:]][0]
        label = made.node(handle)[made[clause[0]].children(handle[1]).index(clause[1]) - 1]
        self.assertTrue(label.startswith("~") and handle not in opened)
        self.assertIn(event[0], [row[0] for row in run_to(made, name, event).row] + ["again"])

    def test_wrong_arguments(self):
        place = ("mid", 1)
        for value in every_kind():
            for call in list(CALLS.values()) + [lambda *three: event_in(*three, "nope")]:
                if not isinstance(value, Program):
                    with self.assertRaises(InvalidProgram):
                        call(value, "nope", None)
                with self.assertRaises(UnknownName) as caught:
                    call(LOSE, value, None)
                self.assertIs(caught.exception.wanted, value)
                with self.assertRaises(UnknownPlace) as caught:
                    call(LOSE, "main", value)
                self.assertIs(caught.exception.spot, value)
            with self.assertRaises(InvalidOperation):
                event_in(LOSE, "main", place, value)
        for word in ("lost ", "Lost", "drop", ("lost",), ["lost"]):
            with self.assertRaises(InvalidOperation):
                event_in(LOSE, "main", place, word)
        with self.assertRaises(UnknownName):
            held_events(LOSE, "nope")
        with self.assertRaises(InvalidProgram):
            held_events(None, "nope")

    def test_too_many_standings(self):
        program = wide("aabbbccc", MORE, body="hold " + LONG_BODY)
        for call in (held_events, lambda whole, name: can_be_left(whole, name, ("h", 0))):
            with self.assertRaises(TooMany) as caught:
                call(program, "f")
            self.assertEqual(caught.exception.limit, 20000)

    def test_what_is_handed_out_is_not_shared(self):
        held_events(LOSE, "main").clear()
        self.assertEqual(held_events(LOSE, "main"), {("mid", 1): ("lost",)})


if __name__ == "__main__":
    unittest.main()
