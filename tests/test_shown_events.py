"""[10.4], [12.2], [0.20]: trails and runs that show events, and papers that tell whether they can happen."""

import unittest

from restwise.around.shown import event_paper, happens_in, is_event_paper, run_to, trail_to
from restwise.around.standings import Standings, never_paper
from restwise.around.trails import Trail, is_trail
from restwise.base.programs import Program
from restwise.errors import InvalidOperation, TooMany
from restwise.run.runs import Run
from tests.making import EXAMPLES, FLIP, INNER, LOG, OUTER, Chance
from tests.plain_standings import all_events
from tests.plain_trails import PlainTrail
from tests.test_events_of_runs import ENDING
from tests.test_standings import BY_HAND
from tests.told_events import events_of_run
from tests.values import every_kind

DETOURS = (
    # Several rests of one clause, each of which runs the piece again.
    ("f: then test step p ask a test step q ask a", "main: handle a: call f step l then rest then rest then rest test rest step z"),
    # Clauses that wait behind one another.
    ("f: then ask a then ask a then ask b ask a", "main: handle a b: call f step l then test rest then step p rest step q then rest step z"),
    ("f: then ask a ask b", "g: handle a: call f done then rest step p", "main: handle b: handle a: then call g ask a done then rest step q done then rest step z"),
    # Tests that must go a certain way each time.
    ("f: test call loop then ask a test call loop then ask a test call loop done", "loop: call loop",
     "main: handle a: call f done test call loop then rest then test call loop done step z"),
    ("f: test call f then ask b test call f done", "g: test call g call f", "main: handle a: handle b: then call g ask a done test done rest done then rest step z"),
    # The handle around answers with a clause that asks in its turn, and drops.
    ("f: then ask a then ask b ask c", "g: handle b: call f done then ask c rest", "main: handle a c: call g done then rest step z test done rest"),
    ("f: then ask a then ask b ask a", "g: handle b: call f done then ask a then ask a rest", "main: handle a: call g step l test then rest step z done"),
    # An ask of the pair that other asks of the same label stand ahead of, and behind.
    ("f: then ask x then ask a then ask x ask a", "g: handle x: call f done then ask a rest", "main: handle a: call g done then rest step z"),
    ("f: then ask x ask x", "g: handle x: call f done then ask a rest", "h: handle y: then call g ask y done rest", "main: handle a: call h done then test rest done step z"),
    # What stands in the place of the work ends in the last part, or in a clause that drops.
    ("f: then ask a ask b", "main: handle a b: call f ask b then rest step z done"),
    ("main: handle a: handle b: then ask b ask a then ask a step l then rest step p done then rest step z",),
    # A deep row of calls and handles.
    ("f: then ask a call g", "g: handle b: then ask a then ask b call h done then ask a rest", "h: handle c: then ask a then ask b ask c done then ask b rest",
     "main: handle a: call f done then rest step z"),
)


class Shown(unittest.TestCase):
    def compare(self, program):
        """How many events have a run; all have a trail, or a paper that they never happen."""
        many = 0
        for name in program:
            told = Standings(program, name).events
            for event in all_events(program):
                if event in told:
                    many += self.check_told(program, name, event)
                elif len(program) < 4 or event[0] != "come":
                    self.check_untold(program, name, event)
        return many

    def check_told(self, program, name, event):
        trail = trail_to(program, name, event)
        self.assertIn(event, trail.told())
        self.assertEqual((trail.program, trail.name), (program, name))
        self.assertTrue(PlainTrail(program, name, trail.lines, trail.points).is_right())
        self.assertEqual(event_paper(program, name, event), ("trail", trail.lines, trail.points))
        self.assertTrue(is_event_paper(program, name, event, ("trail", trail.lines, trail.points)))
        run = run_to(program, name, event)
        self.assertEqual((run.program, run.name, run.given), (program, name, ()))
        self.assertTrue(happens_in(run, event), (program.lines, name, event))
        self.assertIn(event, events_of_run(run))
        self.assertTrue(is_event_paper(program, name, event, ("run", run.world, run.moves)))
        return 1

    def check_untold(self, program, name, event):
        for call in (trail_to, run_to):
            with self.assertRaises(InvalidOperation):
                call(program, name, event)
        paper = event_paper(program, name, event)
        self.assertEqual(paper, ("never", *never_paper(program, name, event)))
        self.assertTrue(is_event_paper(program, name, event, paper))

    def test_examples(self):
        for program in EXAMPLES.values():
            self.assertGreater(self.compare(program), 10)

    def test_programs_by_hand(self):
        for lines in BY_HAND + ENDING:
            self.compare(Program.from_lines(*lines))

    def test_detours(self):
        for lines in DETOURS:
            program = Program.from_lines(*lines)
            self.compare(program)
            step = [("come", (name, index)) for name in program for index, node in enumerate(program[name].nodes) if node == ("step", "z")]
            for event in step:
                run = run_to(program, "main" if "main" in program else "g", event)
                self.assertEqual(run.steps[-1], "z", lines)

    def test_random_programs(self):
        many = 0
        for seed in range(80):
            names = ("f", "g", "h", "loop", "main")[seed % 4:]
            program = Chance(seed, labels=("a", "b", "c")[:1 + seed % 3], names=names, doubling=(0.2, 0.6, 0.9)[seed % 3]).program(6 + seed % 22)
            many += self.compare(program)
        self.assertGreater(many, 2000)

    def test_a_run_is_no_longer_than_it_needs_to_be(self):
        for event, moves in ((("come", ("main", 0)), 1), (("ask", ("coin", 0), ("main", 0)), 4), (("rest", ("main", 6)), 6)):
            self.assertEqual(run_to(FLIP, "main", event).moves, moves)


class Bounds(unittest.TestCase):
    def test_too_many_moves(self):
        # Each function calls the next one many times, so the step behind all this needs a million moves.
        many = " ".join(["then call {0}"] * 9) + " call {0}"
        lines = [f"{name}: " + many.format(later) for name, later in zip("abcde", "bcdef")]
        program = Program.from_lines(*lines, "f: " + " ".join(["then done"] * 9) + " done").with_function("a", Program.from_lines(
            "a: then " + many.format("b") + " step z", *lines[1:], "f: done")["a"])
        event = ("come", ("a", len(program["a"]) - 1))
        self.assertIn(event, Standings(program, "a"))
        self.assertIn(event, trail_to(program, "a", event).told())
        with self.assertRaises(TooMany) as caught:
            run_to(program, "a", event)
        self.assertEqual(caught.exception.limit, 20000)

    def program_with(self, turn, words):
        """A program in which a step stands behind three times so many tests, each of which must go this way."""
        test = "test done call loop" if turn else "test call loop done"
        block = " ".join([f"then {test}"] * 6) + " " + test
        calls = " ".join(["then call f"] * (words - 1)) + " call f"
        return Program.from_lines("f: " + block, "g: " + calls, "loop: call loop", "main: then call g then call g then call g step z")

    def test_two_hundred_tests_and_more(self):
        event = ("come", ("main", 6))
        run = run_to(self.program_with(False, 9), "main", event)
        self.assertEqual((run.tests, run.world), (189, (False,) * 189))
        with self.assertRaises(TooMany) as caught:
            run_to(self.program_with(False, 10), "main", event)
        self.assertEqual(caught.exception.limit, 200)

    def test_tests_behind_the_world_take_their_first_child(self):
        run = run_to(self.program_with(True, 12), "main", ("come", ("main", 6)))
        self.assertEqual(run.tests, 252)
        self.assertLessEqual(len(run.world), 200)

    def test_just_within_the_moves(self):
        program = Program.from_lines("f: " + " ".join(["then done"] * 19) + " done", "g: " + " ".join(["then call f"] * 19) + " call f",
                                     "h: " + " ".join(["then call g"] * 19) + " call g", "main: then call h step z", "long: then call h then call h step z")
        run = run_to(program, "main", ("come", ("main", 2)))
        self.assertEqual((run.moves, run.steps), (16422, ("z",)))
        with self.assertRaises(TooMany):
            run_to(program, "long", ("come", ("long", 4)))


class Papers(unittest.TestCase):
    def test_papers_of_other_events_and_functions(self):
        for program in EXAMPLES.values():
            for name in program:
                told = Standings(program, name).events
                for event in all_events(program):
                    paper = event_paper(program, name, event)
                    for other in all_events(program)[::3]:
                        wanted = paper[0] == "never" and other not in told
                        if paper[0] == "trail":
                            wanted = other in Trail(program, name, paper[1], paper[2]).told()
                        self.assertEqual(is_event_paper(program, name, other, paper), wanted)

    def test_runs_as_papers(self):
        event = ("again", ("main", 6))
        run = run_to(FLIP, "main", event)
        self.assertTrue(is_event_paper(FLIP, "main", event, ("run", (), 20)))
        self.assertTrue(is_event_paper(FLIP, "main", event, ("run", (True, False), run.moves)))
        for value in (("run", (), run.moves - 1), ("run", (), 0), ("run", [], 20), ("run", (), True), ("run", (), 20001), ("run", (), -1), ("run", (1,), 20),
                      ("run", (True,) * 201, 20), ("run", (), 20, ()), ("run", ()), ["run", (), 20], ("Run", (), 20), (("run",), (), 20), run, ("run", run, 20)):
            self.assertFalse(is_event_paper(FLIP, "main", event, value), value)
        self.assertTrue(is_event_paper(FLIP, "main", event, ("run", (True,) * 200, 20000)))
        self.assertFalse(is_event_paper(FLIP, "coin", event, ("run", (), 20)))

    def test_other_values(self):
        trail = trail_to(INNER, "main", ("ended", ("in", 4)))
        event = ("behind", ("in", 4))
        self.assertTrue(is_event_paper(INNER, "main", event, ("trail", trail.lines, trail.points)))
        for value in (("trail", trail.lines), ("trail", trail.points, trail.lines), ("never", trail.lines, trail.points), ("trail", trail.lines, trail.points[:-1]), trail,
                      ("trail", trail.lines[1:], trail.points), (trail.lines, trail.points), ("trail", trail, ())):
            self.assertFalse(is_event_paper(INNER, "main", event, value))
        for value in every_kind():
            for one in (value, ("trail", value, trail.points), ("trail", trail.lines, value), (value, trail.lines, trail.points), ("run", value, 2), ("never", value, value)):
                self.assertFalse(is_event_paper(INNER, "main", event, one), one)
        self.assertFalse(is_trail(INNER, "main", ("trail", trail.lines, trail.points)))
        self.assertEqual(event_paper(OUTER, "main", ("come", ("main", 5)))[0], "never")

    def test_runs_that_are_none(self):
        run = Run(LOG, "main")
        for value in every_kind() + [("come", ("main", 12)), ("rest", ("main", 11), 1), ("step", ("main", 4)), ["come", ("main", 0)]]:
            with self.assertRaises(InvalidOperation):
                happens_in(run, value)
            if not isinstance(value, Run):
                with self.assertRaises(InvalidOperation):
                    happens_in(value, ("come", ("main", 0)))


if __name__ == "__main__":
    unittest.main()
