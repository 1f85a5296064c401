"""[10.1], [10.2]: standings, compared with a plain reading of the rules."""

import unittest

from restwise.around.standings import Standings
from restwise.base.programs import Program
from restwise.errors import UnknownPlace
from restwise.need.rules import least_table
from tests import plain_standings
from tests.making import EXAMPLES, FLIP, INNER, LOG, LOSE, random_programs

BY_HAND = (
    # Handles within work, clauses and last parts.
    ("f: then ask a ask b", "main: handle a: handle b: call f ask a rest handle b: ask b done then rest step p then ask b rest",
     "out: handle b: call main handle a: ask a step q done done"),
    # A label that several handles around it answer.
    ("f: ask a", "g: test call f handle a: call f done rest", "main: handle a: test call g handle a: call g done done done then rest step p"),
    # Rests that end only by a label that can come back, and such whose label cannot.
    ("f: then ask a ask b", "loop: call loop", "main: handle a b: call f done then rest step p rest",
     "never: handle a b: call f done then rest step p then rest call loop"),
    ("f: then ask a ask b", "main: handle a b: call f done then rest step p done", "on: handle b: handle a: call f done then rest step p done done"),
    # Calls in rings.
    ("f: test ask a call g", "g: handle a: call f done test rest call h", "h: test done call f", "main: handle a: call h done then rest handle a: call g done rest"),
    # Nodes that are never come to.
    ("loop: call loop", "main: then call loop handle a: then ask a call loop step p then rest step q"),
    ("main: handle a b: then ask a ask b done then rest test step p rest done",),
    # Rests one behind the other.
    ("main: handle a: then ask a step p done then rest test rest then rest rest",),
    ("f: test ask a ask b", "main: handle a b: call f step l then test rest then rest done test rest done then rest then done rest"),
    ("loop: call loop", "main: handle a: test ask a then ask a call loop done then rest then test rest done rest"),
)


class Compared(unittest.TestCase):
    def compare(self, program):
        """Whether all standings are those of the plain reading; how many there are, and how many are ended."""
        table = least_table(program)
        many = [0, 0]
        for name in program:
            standings = Standings(program, name)
            come, ended = plain_standings.least_set(program, name, table)
            self.assertEqual(standings.come, tuple(sorted(come)), (program.lines, name))
            self.assertEqual(standings.ended, tuple(sorted(ended)), (program.lines, name))
            self.assertEqual(standings.events, tuple(sorted(plain_standings.events(program, table, come, ended))))
            self.check_views(program, standings)
            many[0] += len(come)
            many[1] += len(ended)
        return many

    def check_views(self, program, standings):
        places = [(name, index) for name in program for index in range(len(program[name]))]
        for place in places:
            contexts = tuple(sorted({context for other, context in standings.come if other == place}))
            self.assertEqual(standings.contexts(place), contexts)
            self.assertEqual(place in standings.never, contexts == ())
            if program.node(place)[0] == "ask":
                label = program.node(place)[1]
                handles = {plain_standings.handle_in(context, label) for context in contexts} - {None}
                self.assertEqual(standings.answers(place), tuple(sorted(handles)))
                self.assertEqual(("stop", place) in standings, any(label not in dict((x[0], 1) for x in context) for context in contexts))
                for handle in handles:
                    self.assertIn(place, standings.answers(handle))
        self.assertEqual(standings.never, tuple(sorted(standings.never)))
        self.assertEqual(len(standings), len(standings.come))
        self.assertEqual(tuple(standings), standings.come)
        stops = [event for event in standings.events if event[0] == "stop"]
        self.assertEqual(str(standings), f"{len(standings.come)} standings, {len(standings.ended)} ended, {len(stops)} stops")

    def test_examples(self):
        for program in EXAMPLES.values():
            self.compare(program)

    def test_programs_by_hand(self):
        for lines in BY_HAND:
            self.compare(Program.from_lines(*lines))

    def test_random_programs(self):
        come = ended = 0
        for seed in range(400):
            names = ("f", "g", "loop", "main")[seed % 2:2 + seed % 3]
            program = random_programs(seed, 1, 5 + seed % 20, labels=("a", "b", "c")[:1 + seed % 3], names=names, doubling=0.5)[0]
            one, two = self.compare(program)
            come, ended = come + one, ended + two
        self.assertGreater(come, 3000)
        self.assertGreater(ended, 60)


class Views(unittest.TestCase):
    def test_what_comes_back(self):
        program = Program.from_lines("f: then ask a ask b", "loop: call loop", "main: handle a b: call f done then rest step p rest",
                                     "never: handle a b: call f done then rest step p then rest call loop")
        self.assertIn(("ended", ("main", 4)), Standings(program, "main"))
        self.assertNotIn(("ended", ("never", 4)), Standings(program, "never"))

    def test_given_labels_of_contexts(self):
        log, lose = Standings(LOG, "main"), Standings(LOSE, "main")
        self.assertEqual(log.contexts(("main", 0)), ((),))
        self.assertEqual(log.contexts(("main", 1)), ((("get", ("main", 0), True),),))
        self.assertEqual(lose.contexts(("mid", 0)), ((("a", ("main", 0), False),),))
        self.assertEqual(lose.contexts(("mid", 2)), ((("a", ("main", 0), False), ("b", ("mid", 0), False)),))

    def test_membership(self):
        standings = Standings(FLIP, "main")
        for event in plain_standings.all_events(FLIP):
            self.assertEqual(event in standings, event in standings.events)
        for value in (None, 1, "come", ("come",), ("come", ("main", 99)), ("come", ("main", False)), ["come", ("main", 0)],
                      ("come", ["main", 0]), (("main", 0), ()), {"come": 1}, [[]], standings):
            self.assertFalse(value in standings)

    def test_equality(self):
        again = Program.from_lines(*reversed(FLIP.lines))
        self.assertEqual(Standings(FLIP, "main"), Standings(again, "main"))
        self.assertNotEqual(Standings(FLIP, "main"), Standings(FLIP, "coin"))
        self.assertNotEqual(Standings(INNER, "main"), Standings(LOG, "main"))
        for value in (None, "main", 0, (), Standings(FLIP, "main").come, FLIP):
            self.assertFalse(Standings(FLIP, "main") == value)
            self.assertTrue(Standings(FLIP, "main") != value)

    def test_places_without_answers(self):
        standings = Standings(FLIP, "main")
        for place in (("main", 1), ("main", 5), ("main", 6), ("main", 4), ("main", 99), None, ["main", 0], ("main", True)):
            with self.assertRaises(UnknownPlace) as caught:
                standings.answers(place)
            self.assertIs(caught.exception.spot, place)

    def test_an_ask_that_is_never_come_to(self):
        program = Program.from_lines("loop: call loop", "main: handle a: then call loop ask a done rest")
        standings = Standings(program, "main")
        self.assertEqual((standings.answers(("main", 3)), standings.answers(("main", 0))), ((), ()))
        self.assertEqual(standings.never, (("main", 3), ("main", 4), ("main", 5)))


if __name__ == "__main__":
    unittest.main()
