"""Watched programs, held events, papers of standing in and changes of a project are not slow for large programs."""

import sys
import time
import unittest

from restwise.around.held import held_events, open_places, place_behind, watched
from restwise.around.marks import Marks
from restwise.around.shown import happens_in, run_to, trail_to
from restwise.around.standings import Standings, is_closed_set
from restwise.base.codes import Code
from restwise.base.programs import Program
from restwise.need.rules import least_table
from restwise.text.texts import read_program, read_table, write_program, write_table
from restwise.use.modules import can_stand, exchanged, is_stand_paper, stand_paper
from restwise.use.project import Project
from tests.making import Chance
from tests.test_speed import chain, full, large
from tests.test_speed_around import wide

SECONDS = 20


def holding(handles="handle a b c: call {} done then ask b rest then ask c rest rest"):
    """Six functions of many holds each, below a handle of three labels in each."""
    functions = {}
    for name, later in zip("fghijk", "ghijkf"):
        asks = " ".join([f"then hold ask {label}" for label in "abcabcabc"])
        functions[name] = Code.read(f"test {handles.format(later)} {asks} hold ask a")
    return Program(functions)


def nested():
    """Handles within the clauses of handles, so that much of a watched program stands several times."""
    deep = "hold ask a"
    for label, other in ("ab", "bc", "ca", "ab", "bc"):
        deep = f"handle {label}: hold ask {other} done then {deep} rest"
    return Program({"f": Code.read("handle a: ask a " + deep + " rest"), "main": Code.read("handle a b c: call f done rest rest rest")})


class Fast(unittest.TestCase):
    def setUp(self):
        self.begun = time.monotonic()
        self.depth = sys.getrecursionlimit()
        sys.setrecursionlimit(400)

    def tearDown(self):
        sys.setrecursionlimit(self.depth)
        self.assertLess(time.monotonic() - self.begun, SECONDS)

    def test_holds_of_six_functions(self):
        program = holding()
        self.assertEqual(len(program.holds), 60)
        self.assertEqual(len(held_events(program, "f")), 60)

    def test_holds_of_a_large_random_program(self):
        program = Chance(2, labels=("a", "b", "c"), names=("f", "g", "h", "i", "j", "main"), doubling=0.1, holds=3).program(40)
        self.assertGreater(len(program.holds), 30)
        held_events(program, "f")

    def test_holds_within_holds(self):
        program = Program({name: Code.read("hold " * 37 + f"test ask a call {later}") for name, later in zip("fghijk", "ghijkf")})
        words = held_events(program, "f")
        self.assertEqual((len(words), set(words.values())), (222, {("left",)}))

    def test_watched_programs(self):
        for program in (holding(), nested()):
            for place in program.holds[:8]:
                made = watched(program, place)
                for spot in list(least_table(made))[::3]:
                    place_behind(program, place, spot)
                self.assertGreater(len(open_places(program, place)), 0)
                standings = Standings(made, made.names[0])
                self.assertTrue(is_closed_set(made, made.names[0], least_table(made), (standings.come, standings.ended)))
                Marks(made, made.names[-1])
                for event in standings.events[::40]:
                    self.assertIn(event, trail_to(made, made.names[0], event).told())
                    self.assertTrue(happens_in(run_to(made, made.names[0], event), event))

    def test_papers(self):
        for program in (chain(), full(), large(1), large(3)):
            for name in program:
                for other in program.names[::2]:
                    paper = stand_paper(program, name, other)
                    self.assertTrue(is_stand_paper(program, name, other, paper))
                    self.assertEqual(can_stand(program, name, other), paper[0] == "stands")
            exchanged(program, program.names[0], program.names[0])

    def test_projects(self):
        for program in (chain(), full(), large(1), wide()):
            project = Project.holding(program)
            name = program.names[0]
            project.pin(("never", name, "nothere"))
            project.pin(("stands", name, name))
            for label in program.labels:
                project.pin(("marked", name, name, label, "copy"))
            for other in program.names[1:4]:
                code = program[other]
                project.put(other, code)
                project.trial(("put", other, code), ("put", other, code))
            self.assertEqual(len(project.undo(many=len(project.log))), 0)

    def test_texts(self):
        for program in (chain(), full(), large(2)):
            self.assertEqual(read_program(write_program(program)), program)
            table = least_table(program)
            self.assertEqual(read_table(write_table(table)), {place: facts for place, facts in table.items() if facts})


if __name__ == "__main__":
    unittest.main()
