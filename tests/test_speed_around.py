"""Standings, marks, trails and told runs of large programs, and of those with many contexts, are not slow."""

import sys
import time
import unittest

from restwise.around.marks import Marks, alike_paper, is_alike_paper
from restwise.around.shown import event_paper, happens_in, is_event_paper, run_to, trail_to
from restwise.around.standings import Standings, is_closed_set, is_never_paper
from restwise.around.trails import is_trail
from restwise.base.codes import Code
from restwise.base.programs import Program
from restwise.errors import TooMany
from restwise.need.rules import least_table
from tests.test_speed import chain, full, large

SECONDS = 20
BODY = "test then ask a then ask b ask c test then ask c ask a test then ask b ask a test test ask a ask b test ask c call {}"
LONG_BODY = ("test then ask a then ask b then ask c ask a test then ask c then ask b ask a test then ask b then ask c ask a test then ask c ask b "
             "test test ask a ask b test ask c test ask a call {}")
FEWER = ("then ask b rest", "then ask c rest", "rest", "then ask a rest", "then ask c rest", "rest", "then ask a rest", "then ask b rest")
MORE = ("then ask c rest", "then ask a rest", "then ask c rest", "then ask a rest", "test done then ask b rest", "then ask b rest", "rest", "then ask c rest")


def wide(labels="aaabbbcc", clauses=FEWER, bodies="hijk", body=BODY):
    """A program in which eight handles stand in all orders around asks, so that there are many contexts."""
    handles = [f"test handle {label}: call f done {clause}" for label, clause in zip(labels, clauses)]
    functions = {"f": " ".join(handles[:4]) + " call g", "g": " ".join(handles[4:]) + " call h"}
    for name, later in zip(bodies, bodies[1:] + "f"):
        functions[name] = body.format(later)
    return Program({name: Code.read(text) for name, text in functions.items()})


class Fast(unittest.TestCase):
    def setUp(self):
        self.begun = time.monotonic()
        self.depth = sys.getrecursionlimit()
        sys.setrecursionlimit(400)

    def tearDown(self):
        sys.setrecursionlimit(self.depth)
        self.assertLess(time.monotonic() - self.begun, SECONDS)

    def check(self, program, step=1):
        for name in list(program)[::step]:
            standings, marks = Standings(program, name), Marks(program, name)
            self.assertTrue(is_closed_set(program, name, least_table(program), (standings.come, standings.ended)))
            if marks.least.marks:
                self.assertTrue(is_alike_paper(program, name, marks.least, alike_paper(program, name, marks.least)))
            seldom = [event for event in standings.events if event[0] in ("ended", "behind", "again", "drop")]
            for event in standings.events[::max(1, len(standings.events) // 8)] + tuple(seldom[::max(1, len(seldom) // 6)]):
                self.check_event(program, name, event)
            for place in standings.never[::20]:
                paper = event_paper(program, name, ("come", place))
                self.assertTrue(is_never_paper(program, name, ("come", place), paper[1:]))

    def check_event(self, program, name, event):
        trail = trail_to(program, name, event)
        self.assertTrue(is_trail(program, name, (trail.lines, trail.points)))
        self.assertTrue(is_event_paper(program, name, event, ("trail", trail.lines, trail.points)))
        try:
            self.assertTrue(happens_in(run_to(program, name, event), event))
        except TooMany as error:
            self.assertIn(error.limit, (200, 20000))

    def test_large_programs(self):
        for program in (chain(), full()):
            self.check(program)

    def test_large_random_programs(self):
        for seed in (1, 3):
            self.check(large(seed), 2)

    def test_many_contexts(self):
        program = wide()
        self.assertGreater(len(Standings(program, "f")), 10000)
        self.check(program)

    def test_too_many_standings(self):
        program = wide("aabbbccc", MORE, body=LONG_BODY)
        for call in (Standings, Marks, lambda whole, name: trail_to(whole, name, ("come", ("h", 3))), lambda whole, name: run_to(whole, name, ("come", ("h", 3))),
                     lambda whole, name: event_paper(whole, name, ("come", ("h", 3)))):
            with self.assertRaises(TooMany) as caught:
                call(program, "f")
            self.assertEqual(caught.exception.limit, 20000)

    def test_long_trails(self):
        program = Program.from_lines("f: then ask a then ask b call f", "main: handle a: handle b: call f done then ask a rest done rest")
        standings = Standings(program, "main")
        start = ("come", ("main", 0), (), (), ())
        trail = trail_to(program, "main", ("rest", program.rests[1]))
        many = [start] * (20000 - len(trail))
        points = tuple(many) + tuple((word, place, context, tuple(at + len(many) for at in ahead), facts) for word, place, context, ahead, facts in trail.points)
        self.assertTrue(is_trail(program, "main", (trail.lines, points)))
        self.assertLess(len(standings), 40)


if __name__ == "__main__":
    unittest.main()
