"""Many small programs with holds, one after another, are not slow: what is asked of each is worked out by few calls."""

import sys
import time
import unittest

from restwise.around.held import event_in, held_events, watched
from restwise.around.standings import Standings
from restwise.base.programs import Program

SECONDS = 20
ROUNDS = 60
WORDS = ("left", "lost", "shared")
HANDLING = "main: handle a: {} done {}"
PROGRAMS = (
    ("main", "main: hold handle a: hold ask a done done"),
    ("main", "main: handle a: call mid done then rest rest", "mid: handle b: hold ask b done then ask a rest"),
    ("main", "main: handle a: call mid done rest", "mid: handle b: hold ask b done then ask a rest"),
    ("main", "f: test done hold then ask a call f", "main: handle a: call f done rest"),
    ("main", "main: handle a b: hold then ask a ask b done then rest rest done"),
    ("main", "main: handle a: call mid done done", "mid: handle b: hold ask b done then ask a rest"),
    ("main", "main: handle a: call mid done test rest done", "mid: handle b: hold ask b done then ask a then ask a rest"),
    ("main", HANDLING.format("hold ask a", "done")),
    ("main", HANDLING.format("hold ask a", "rest")),
    ("main", HANDLING.format("hold ask a", "then rest rest")),
    ("main", HANDLING.format("hold test ask a done", "test rest test done then rest rest")),
    ("main", HANDLING.format("hold then hold ask a ask a", "test rest done")),
    ("main", HANDLING.format("then hold ask a hold ask a", "test rest done")),
    ("main", HANDLING.format("then hold step p then ask a hold step q", "then rest rest")),
    ("main", HANDLING.format("ask a", "then hold step p rest")),
    ("main", HANDLING.format("hold call main", "rest")),
    ("main", HANDLING.format("hold ask b", "rest")),
    ("main", HANDLING.format("handle b: hold ask a done rest", "done")),
    ("f", HANDLING.format("then hold step p ask a", "done"), "f: hold call main"),
    ("main", "main: handle a: ask a hold ask b then hold ask b rest"),
    ("main", "f: hold then ask a step p", "main: handle a: call f done then rest test rest done"),
    ("main", "f: hold ask a", "main: handle a: call f done done"),
    ("f", "f: hold ask a", "main: handle a: call f done done"),
    ("main", "f: hold ask a", "main: handle a: then call f call f done then rest rest"),
    ("main", "f: hold ask a", "main: handle a: handle b: call f done rest done rest"),
    ("main", "loop: call loop", HANDLING.format("hold then ask a call loop", "then rest rest")),
    ("main", "main: hold ask a"),
    ("main", "main: hold hold ask a"),
    ("main", "main: test hold ask a done"),
    ("main", "main: hold done"),
)


def asked():
    """What the programs answer, each read anew."""
    answers = []
    for name, *lines in PROGRAMS:
        program = Program.from_lines(*lines)
        words = held_events(program, name)
        events = [event_in(program, name, place, word) for place in program.holds for word in WORDS]
        told = [Standings(watched(program, place), name).events for place, found in words.items() if found]
        answers.append((words, events, told))
    return answers


class Fast(unittest.TestCase):
    def test_answers(self):
        self.assertEqual(len(PROGRAMS), 30)
        found = {word for words, _, _ in asked() for row in words.values() for word in row}
        self.assertEqual(found, set(WORDS))
        for words, events, told in asked():
            self.assertEqual(len([event for event in events if event is not None]), sum(len(row) for row in words.values()))
            for event in events:
                self.assertTrue(event is None or any(event in row for row in told))

    def test_time(self):
        begun = time.monotonic()
        for _ in range(ROUNDS):
            asked()
        self.assertLess(time.monotonic() - begun, SECONDS)

    def test_calls(self):
        # How many functions are called does not depend on how fast the machine is.
        calls = [0]

        def count(_, word, __):
            calls[0] += word == "call"
        usual = sys.getprofile()
        sys.setprofile(count)
        try:
            asked()
        finally:
            sys.setprofile(usual)
        self.assertLess(calls[0], 60000)


if __name__ == "__main__":
    unittest.main()
