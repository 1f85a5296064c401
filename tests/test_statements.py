"""[0.24], [0.25]: what is not true, and what is, of standings, events and marks."""

import random
import unittest

from restwise.around.marks import Marks
from restwise.around.shown import happens_in, run_to
from restwise.around.standings import Standings
from restwise.base.codes import Code
from restwise.base.programs import Program, inlined
from restwise.errors import InvalidProgram
from restwise.need.families import END
from restwise.need.rules import least_table
from restwise.run.runs import Run, all_runs
from tests.making import INNER, OUTER, Chance


def programs(many, size):
    for seed in range(many):
        yield Chance(seed, labels=("a", "b", "c")[:1 + seed % 3], names=("f", "g", "loop", "main")[seed % 3:], doubling=0.6).program(5 + seed % size)


class Inlined:
    """A program with a call replaced, and where its places come from."""

    def __init__(self, program, place):
        self.old, self.place = program, place
        self.called = program.node(place)[1]
        self.new = inlined(program, place)
        self.size = len(program[self.called])

    def old_place(self, place):
        name, index = place
        if name != self.place[0] or index < self.place[1]:
            return place
        if index < self.place[1] + self.size:
            return (self.called, index - self.place[1])
        return (name, index - self.size + 1)

    def kept_place(self, place):
        """Where a node of the old program, other than the call, stands in the new one."""
        name, index = place
        return (name, index + self.size - 1) if name == self.place[0] and index > self.place[1] else place

    def old_event(self, event):
        return (event[0], *[self.old_place(place) for place in event[1:]])

    def fact(self, place, fact):
        """A fact of an old place as the new program tells it."""
        if fact[-1][0] != "rest":
            return fact
        return fact[:-1] + (("rest", self.kept_place((place[0], fact[-1][1]))[1]),)


class True_(unittest.TestCase):
    def test_a_call_can_be_replaced_by_the_code_of_the_called_function(self):
        many = 0
        for seed, program in enumerate(programs(260, 14)):
            calls = [(name, index) for name in program for index, node in enumerate(program[name].nodes)
                     if node[0] == "call" and node[1] != name]
            if not calls:
                continue
            try:
                made = Inlined(program, random.Random(seed).choice(calls))
            except InvalidProgram:
                continue
            many += 1
            self.check_facts(program, made)
            for name in program:
                self.check_events(program, made, name)
        self.assertGreater(many, 100)

    def check_facts(self, program, made):
        old, new = least_table(program), least_table(made.new)
        for place in old:
            if place != made.place:
                facts = {made.fact(place, fact) for fact in old[place]}
                self.assertEqual(facts, set(new[made.kept_place(place)]), (program.lines, made.place, place))

    def check_events(self, program, made, name):
        before = set(Standings(program, name).events)
        after = {made.old_event(event) for event in Standings(made.new, name).events}
        if ("come", made.place) in before:
            before.add(("come", (made.called, 0)))
        before.discard(("come", made.place))
        # The code of a clause can be a call, whose place is then that of the clause.
        top = {event for event in before if event[0] == "drop" and event[1] == made.place}
        tops = {("drop", (made.called, 0))} if top else set()
        self.assertEqual((before - top) | tops, after | tops, (program.lines, made.place, name))
        marks, others = Marks(program, name), Marks(made.new, name)
        for clause in program.clauses:
            if clause != made.place:
                copies = [other for other in others if made.old_place(other) == clause]
                right = [mark for mark in ("place", "jump", "move", "copy") if all(mark in others.right(copy) for copy in copies)]
                self.assertEqual(marks.right(clause), tuple(right))

    def test_a_handle_none_of_whose_labels_is_free_in_its_work(self):
        out = Code.read("handle b c: call main step l then ask b rest test rest done")
        for work in ("ask b", "then step p ask b", "call f", "handle a: ask a done then ask b rest"):
            for last in ("done", "ask c", "then ask b ask c", "handle a: then ask a ask b step p then rest step q"):
                told = []
                for line in (f"main: handle a: {work} {last} then ask b rest", f"main: then {work} {last}"):
                    program = Program.from_lines("f: test ask b done", line).with_function("out", out)
                    events = [event for event in Standings(program, "out").events if event[1][0] == "out"]
                    told.append((least_table(program)[("main", 0)], events, Marks(program, "out").right(("out", 3))))
                self.assertEqual(told[0], told[1])

    def test_given_labels_never_hide_that_a_node_begins(self):
        for seed, program in enumerate(programs(120, 14)):
            for name in program:
                few = {place for run in all_runs(program, name, 4, moves=60) for place in run.places}
                given = tuple(label for label in program.labels if seed % 2 or label != "a")
                many = {place for run in all_runs(program, name, 6, given=given, moves=120) for place in run.places}
                self.assertEqual(few - many, set(), (program.lines, name))

    def test_place_is_wrong_for_a_clause_that_drops_in_some_run(self):
        many = 0
        for program in programs(300, 20):
            for name in program:
                for run in list(all_runs(program, name, 4, moves=80))[:12]:
                    for event in run:
                        if event[0] == "drop":
                            self.assertNotIn("place", Marks(program, name).right(event[1]))
                            many += 1
        self.assertGreater(many, 30)


class False_(unittest.TestCase):
    def test_a_clause_with_two_rests_comes_to_both(self):
        program = Program.from_lines("loop: call loop", "main: handle a: ask a done then rest then call loop rest")
        standings = Standings(program, "main")
        self.assertTrue(program.is_doubling(("main", 3)))
        self.assertNotIn(("rest", program.rests[1]), standings)
        self.assertNotIn(("again", program.rests[0]), standings)
        self.assertEqual(Marks(program, "main")[("main", 3)], "move")

    def test_the_piece_may_never_end_so_that_a_second_rest_is_not_come_to(self):
        program = Program.from_lines("loop: call loop", "main: handle a: then ask a call loop done then rest rest")
        self.assertEqual(Marks(program, "main")[("main", 5)], "place")

    def test_marks_depend_only_on_the_handle_around(self):
        program = Program.from_lines("f: then ask a ask b", "in: handle a: call f done then rest step z", "loop: call loop",
                                     "one: handle b: call in done rest", "two: handle b: call in done done")
        self.assertEqual([Marks(program, name)[("in", 3)] for name in ("one", "two", "in")], ["move", "place", "place"])
        self.assertEqual(run_to(program, "one", ("behind", ("in", 4))).steps, ("z",))

    def test_if_each_ask_goes_on_the_piece_can_end(self):
        standings = Standings(OUTER, "main")
        for ask in OUTER.asks:
            for handle in standings.answers(ask):
                clause = OUTER.clause(handle, OUTER.node(ask)[1])
                self.assertIn(("rest", (clause[0], clause[1] + 1)), standings)
        self.assertNotIn(("ended", ("main", 4)), standings)

    def test_the_order_of_two_handles_has_no_effect(self):
        self.assertEqual(Marks(INNER, "main").least.marks, {("in", 3): "move", ("main", 3): "move"})
        self.assertEqual(Marks(OUTER, "main").least.marks, {("in", 3): "move", ("main", 3): "place"})

    def test_a_fact_with_fewer_labels_has_a_shorter_run(self):
        program = Program.from_lines("f: test ask a then step p then step p step p", "loop: call loop")
        facts = least_table(program)[("f", 0)]
        self.assertIn(((), END), facts)
        self.assertFalse(((("a",), END)) in facts)
        short = Run(program, "f", (True,), given=("a",))
        self.assertEqual((short.end, short.moves), (("end",), 2))
        self.assertEqual(Run(program, "f", (False,)).moves, 6)
        self.assertTrue(happens_in(short, ("come", ("f", 1))))


if __name__ == "__main__":
    unittest.main()
