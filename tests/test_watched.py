"""[13.1]: watched programs, compared with a plain reading, and what other stages make of them."""

import unittest

from restwise.around.held import open_places, place_behind, watched
from restwise.around.marks import Marks, alike_paper, is_alike_paper
from restwise.around.shown import event_paper, happens_in, is_event_paper, run_to, trail_to
from restwise.around.standings import Standings, is_closed_set, is_context, is_event
from restwise.around.trails import is_trail
from restwise.base.codes import Code
from restwise.base.programs import Program, inlined, program_from, renamed
from restwise.errors import (InvalidCode, InvalidFact, InvalidOperation, InvalidProgram, InvalidWord, ParseError, UnknownName, UnknownPlace)
from restwise.need.families import is_covered, is_fact
from restwise.need.lines import is_lines, is_shown, round_of, shown
from restwise.need.rules import facts_made, following, goes_back, is_table, least_table
from restwise.need.tables import Table, denial, is_closed, is_denial
from restwise.run.marked import Marked, Marking
from restwise.run.runs import Run, all_runs
from restwise.text.texts import read_marking, read_program, write_fact, write_marking, write_program
from restwise.use.modules import can_stand, exchanged, is_stand_paper, stand_paper
from restwise.use.project import Project
from tests import plain_rules, plain_standings
from tests.making import LOSE, Chance
from tests.told_events import events_of_run

THREE = Program.from_lines("f: then ask a then hold ask b ask c", "main: hold handle a b c: hold call f hold ask a then ask b rest handle a: hold ask a done then ask b rest "
                           "then rest step p")


class Tree:
    """A node with its children, each told by what it is made of and whether it is open."""

    def __init__(self, node, origin, is_open, below):
        self.node, self.origin, self.is_open, self.below = node, origin, is_open, below

    def all(self):
        return [self] + [tree for child in self.below for tree in child.all()]


def marked(name):
    return "~" + name


def open_tree(code, index):
    node = code.nodes[index]
    if node[0] in ("ask", "call", "handle"):
        node = (node[0],) + tuple(marked(name) for name in node[1:])
    return Tree(node, index, True, [open_tree(code, child) for child in code.children(index)])


def plain_tree(code, index, hold):
    node, children = code.nodes[index], code.children(index)
    below = [plain_tree(code, child, hold) for child in children]
    if index == hold:
        return Tree(("test",), index, False, [Tree(node, index, False, below), Tree(node, index, False, [open_tree(code, children[0])])])
    if node[0] == "handle":
        labels = node[1:] + tuple(marked(label) for label in node[1:])
        return Tree((node[0],) + labels, index, False, below + [open_tree(code, child) for child in children[2:]])
    return Tree(node, index, False, below)


def plain_watched(program, place):
    """For each name of a function of the watched program its trees in preorder."""
    found = {}
    for name in program:
        code = program[name]
        found[name] = plain_tree(code, 0, place[1] if name == place[0] else None).all()
        found[marked(name)] = open_tree(code, 0).all()
    return found


def programs(many, size=24, holds=4):
    for seed in range(many):
        yield Chance(seed, labels=("a", "b", "c")[:1 + seed % 3], names=("f", "g", "loop", "main")[seed % 3:], doubling=0.5, holds=holds).program(4 + seed % size)


def some_watched(many):
    for seed, program in enumerate(programs(many, 12)):
        if program.holds:
            place = program.holds[seed % len(program.holds)]
            yield program, place, watched(program, place)


class Compared(unittest.TestCase):
    def compare(self, program, place):
        made, rows = watched(program, place), plain_watched(program, place)
        self.assertEqual(made.names, tuple(sorted(rows)))
        opened = []
        for name, trees in rows.items():
            self.assertEqual(made[name].nodes, tuple(tree.node for tree in trees), (program.lines, place))
            for index, tree in enumerate(trees):
                self.assertEqual(place_behind(program, place, (name, index)), (name.lstrip("~"), tree.origin))
                if tree.is_open:
                    opened.append((name, index))
        self.assertEqual(open_places(program, place), tuple(sorted(opened)))
        self.assertEqual(made.labels, program.labels + tuple(marked(label) for label in program.labels))
        return made

    def test_the_example(self):
        made = self.compare(LOSE, ("mid", 1))
        self.assertEqual(made.lines, ("main: handle a ~a: call mid done done done",
                                      "mid: handle b ~b: test hold ask b hold ask ~b done then ask a rest then ask ~a rest",
                                      "~main: handle ~a: call ~mid done done", "~mid: handle ~b: hold ask ~b done then ask ~a rest"))
        self.assertEqual([place_behind(LOSE, ("mid", 1), ("mid", index)) for index in range(1, 6)], [("mid", 1), ("mid", 1), ("mid", 2), ("mid", 1), ("mid", 2)])

    def test_handles_of_three_labels(self):
        for place in THREE.holds:
            made = self.compare(THREE, place)
            self.assertEqual(made.labels, ("a", "b", "c", "~a", "~b", "~c"))
            self.assertEqual(made.node(made.handles[0])[1:], ("a", "b", "c", "~a", "~b", "~c"))
        self.assertEqual(len(THREE.holds), 5)

    def test_random_programs(self):
        many = 0
        for program in programs(90):
            for place in program.holds:
                self.compare(program, place)
                many += 1
        self.assertGreater(many, 150)

    def test_a_watched_program_is_equal_only_to_one_that_is_made_alike(self):
        again = Program.from_lines(*LOSE.lines)
        self.assertEqual(watched(LOSE, ("mid", 1)), watched(again, ("mid", 1)))
        self.assertNotEqual(watched(LOSE, ("mid", 1)), LOSE)
        one, two = THREE.holds[:2]
        self.assertNotEqual(watched(THREE, one), watched(THREE, two))

    def test_places_that_are_none(self):
        for place in (("mid", 0), ("main", 0), ("mid", 9), ("~mid", 1), None, ["mid", 1], ("mid", True)):
            for call in (watched, open_places, lambda program, spot: place_behind(program, spot, None)):
                with self.assertRaises(UnknownPlace) as caught:
                    call(LOSE, place)
                self.assertIs(caught.exception.spot, place)
        for place in (("mid", 13), ("mid", -1), ("~mid", 7), ("~~mid", 0), None, ["mid", 0], ("mid", True)):
            with self.assertRaises(UnknownPlace) as caught:
                place_behind(LOSE, ("mid", 1), place)
            self.assertIs(caught.exception.spot, place)


class Stages(unittest.TestCase):
    def test_tables_and_facts(self):
        for program, place, made in some_watched(30):
            table = least_table(made)
            told, backs = plain_rules.rounds(made)
            for spot in table:
                self.assertEqual(set(table[spot]), plain_rules.least(told[spot]))
                self.assertEqual(facts_made(made, spot, table), table[spot])
            for rest in made.rests:
                self.assertEqual(goes_back(made, rest, table), rest in backs)
                following(made, rest)
            self.assertTrue(is_table(made, table) and is_closed(made, table) and Table(made).is_least())
            # The plain functions have all facts that they had.
            for name in program:
                self.assertTrue(least_table(program)[(name, 0)].is_within(table[(name, 0)]))

    def test_lines(self):
        for _, _, made in some_watched(24):
            table = Table(made)
            for spot, fact in list(table.each())[::7]:
                lines = shown(made, spot, fact)
                self.assertTrue(is_lines(made, lines.lines) and is_shown(made, spot, fact, lines.lines))
                self.assertEqual(lines.height, round_of(made, spot, fact))
                self.assertTrue(table.covers(spot, fact))
                self.assertTrue(table.assuming(spot, fact) == table)
            for label in made.labels:
                fact = ((), ("ask", label))
                if not table.covers((made.names[0], 0), fact):
                    self.assertTrue(is_denial(made, (made.names[0], 0), fact, denial(made, (made.names[0], 0), fact)))

    def test_standings_and_marks(self):
        for _, _, made in some_watched(30):
            table = least_table(made)
            for name in made:
                standings = Standings(made, name)
                come, ended = plain_standings.least_set(made, name, table)
                self.assertEqual((set(standings.come), set(standings.ended)), (come, ended))
                self.assertEqual(set(standings.events), plain_standings.events(made, table, come, ended))
                self.assertTrue(is_closed_set(made, name, table, (standings.come, standings.ended)))
                for _, context in standings.come[:5]:
                    self.assertTrue(is_context(made, context))
                marks = Marks(made, name)
                self.assertTrue(is_alike_paper(made, name, marks.least, alike_paper(made, name, marks.least)))

    def test_what_is_known_of_it_serves_for_standings(self):
        # An equal program of which nothing is known has the same standings, by its own least table.
        many = 0
        for seed in range(240):
            program = Chance(seed, labels=("a", "b", "c")[:1 + seed % 3], names=("f", "g", "loop", "main")[seed % 3:],
                             doubling=(0.1, 0.5, 0.9)[seed % 3], holds=1 + seed % 4).program(6 + seed % 30)
            for place in program.holds[:3]:
                made = watched(program, place)
                alike = program_from(made.functions)
                self.assertEqual(made, alike)
                for name in made:
                    one, other = Standings(made, name), Standings(alike, name)
                    self.assertEqual((one.come, one.ended, one.events), (other.come, other.ended, other.events), (program.lines, place, name))
                    many += len(one.ended)
        self.assertGreater(many, 200)

    def test_holds_in_turn(self):
        program = Program.from_lines("f: then hold ask a hold hold ask b", "main: handle a b: then hold call f then hold ask a hold step p done rest done")
        self.assertEqual(len(program.holds), 6)
        first = {place: watched(program, place) for place in program.holds}
        for place in program.holds + program.holds[::-1]:
            again = Program.from_lines(*program.lines)
            self.assertEqual((watched(program, place), open_places(program, place)), (first[place], open_places(again, place)))
            for name in program:
                self.assertEqual(Standings(watched(program, place), name).events, Standings(watched(again, place), name).events)

    def test_runs_and_trails(self):
        for _, _, made in some_watched(40):
            for name in made.names[::2]:
                told = Standings(made, name).events
                for run in list(all_runs(made, name, 3, given=made.labels[-1:], moves=60))[:6]:
                    self.assertEqual(run, Run(made, name, run.world, given=made.labels[-1:], moves=60))
                for run in list(all_runs(made, name, 4, moves=60))[:6]:
                    self.assertEqual(events_of_run(run) - set(told), set())
                    self.assertIsNone(Marked(run, Marks(made, name).least).broken)
                for event in told[::5]:
                    self.assertTrue(is_event(made, event))
                    self.assertTrue(happens_in(run_to(made, name, event), event))
                    trail = trail_to(made, name, event)
                    self.assertTrue(is_trail(made, name, (trail.lines, trail.points)))
                    self.assertTrue(is_event_paper(made, name, event, event_paper(made, name, event)))

    def test_programs(self):
        made = watched(LOSE, ("mid", 1))
        self.assertEqual((made.needed("~main"), made.callers("~mid"), len(made), str(made)), (("~main", "~mid"), ("~main",), 4, "program of 4 functions, 29 nodes"))
        self.assertEqual((made.clause(("main", 0), "~a"), made.free_labels(("mid", 0)), made.is_quiet(("main", 0))), (("main", 4), ("a", "~a"), True))
        self.assertEqual(made["~mid"].text, "handle ~b: hold ask ~b done then ask ~a rest")
        self.assertEqual((made["~mid"].part(1).text, made["~mid"].labels, made["~main"].calls), ("hold ask ~b", ("~a", "~b"), ("~mid",)))
        self.assertTrue("~mid" in made)
        with self.assertRaises(UnknownName):
            made.needed("~f")

    def test_what_refuses(self):
        made = watched(LOSE, ("mid", 1))
        for fact in (((), ("ask", "~a")), (("~a",), ("end",)), ("~a", (), ("end",))):
            self.assertFalse(is_fact(fact))
            for call in (lambda: is_covered(fact, fact), lambda: write_fact(fact), lambda: least_table(made)[("mid", 0)].covers(fact)):
                with self.assertRaises(InvalidFact):
                    call()
            self.assertIs(type(Table(made).covers(("mid", 0), fact)), bool)
        with self.assertRaises(ParseError):
            Program.from_lines(*made.lines)
        with self.assertRaises(ParseError):
            read_program(write_program(made))
        with self.assertRaises(ParseError):
            Code.read(made["~mid"].text)
        with self.assertRaises(InvalidCode):
            made["~mid"] + made["~main"]
        with self.assertRaises(InvalidCode):
            Code(made["~mid"].nodes)
        with self.assertRaises(InvalidProgram):
            Program({"main": made["~mid"]})
        with self.assertRaises(InvalidProgram):
            Program(made.functions)

    def test_what_judges_its_result(self):
        made = watched(LOSE, ("mid", 1))
        names, labels = {name: name for name in made}, {label: label for label in made.labels}
        for call in (lambda: made | made, lambda: made & made, lambda: made.with_function("f", Code.leaf("done")),
                     lambda: made.without("~main"), lambda: inlined(made, ("~main", 1)), lambda: inlined(made, ("main", 1)), lambda: exchanged(made, "mid", "~mid"),
                     lambda: Program.from_lines("f: done") | made):
            with self.assertRaises(InvalidProgram):
                call()
        with self.assertRaises(InvalidOperation):
            renamed(made, functions=names, labels=labels, steps={})
        with self.assertRaises(InvalidWord):
            made.with_function("~f", Code.leaf("done"))
        with self.assertRaises(InvalidOperation):
            made | LOSE
        with self.assertRaises(UnknownName):
            made.without("~f")
        with self.assertRaises(InvalidProgram):
            Project.holding(made).put("f", Code.leaf("done"))

    def test_results_that_are_programs(self):
        small = Program.from_lines("main: hold done")
        made = watched(small, ("main", 0))
        self.assertEqual(made.without("~main"), Program.from_lines("main: test hold done hold done"))
        self.assertEqual(renamed(made, functions={"main": "main", "~main": "f"}, labels={}, steps={}),
                         Program.from_lines("main: test hold done hold done", "f: hold done"))
        self.assertEqual(made & Program.from_lines("main: test hold done hold done"), Program.from_lines("main: test hold done hold done"))
        asking = watched(Program.from_lines("main: handle a: hold ask a done then ask a rest"), ("main", 1))
        self.assertEqual(renamed(asking, functions={"main": "main", "~main": "f"}, labels={"a": "b", "~a": "a"}, steps={}).lines,
                         ("f: handle a: hold ask a done then ask a rest",
                          "main: handle a b: test hold ask b hold ask a done then ask a rest then ask b rest"))
        # A handle of six labels is none of another program.
        names, labels = {"f": "f", "main": "g", "~f": "h", "~main": "i"}, {"a": "a", "b": "b", "c": "c", "~a": "d", "~b": "e", "~c": "x"}
        with self.assertRaises(InvalidProgram):
            renamed(watched(THREE, ("main", 0)), functions=names, labels=labels, steps={"p": "p"})

    def test_use_and_texts(self):
        for program, place, made in some_watched(24):
            for name in made:
                for other in made.names[::2]:
                    paper = stand_paper(made, name, other)
                    self.assertTrue(is_stand_paper(made, name, other, paper))
                    self.assertEqual(can_stand(made, name, other), paper[0] == "stands")
            for name in program:
                self.assertEqual(can_stand(program, name, program.names[0]), can_stand(made, marked(name), marked(program.names[0])))
            self.assertEqual(write_program(made), "\n".join(made.lines))
            marking = Marking.uniform(made, "move")
            self.assertEqual(read_marking(made, write_marking(marking)), marking)
            project = Project.holding(made)
            self.assertEqual((project.made(), project.functions), (made, made.functions))
            self.assertEqual(project.facts("~" + program.names[0]), least_table(made)[("~" + program.names[0], 0)])
            project.pin(("never", "~" + program.names[0], "nostep"))
            self.assertEqual(project.does_hold(("safe", "~main" if "main" in program else "~" + program.names[0])),
                             not any(event[0] == "stop" for event in Standings(made, "~main" if "main" in program else "~" + program.names[0]).events))


if __name__ == "__main__":
    unittest.main()
