"""[0.25]: other names change names and places only. [0.24]: what is not true of holds and of functions that stand in."""

import random
import unittest

from restwise.around.held import held_events
from restwise.around.marks import Marks
from restwise.around.standings import Standings
from restwise.base.programs import Program, renamed
from restwise.need.families import END, Facts
from restwise.need.rules import least_table
from restwise.run.runs import Run, all_runs
from restwise.use.modules import can_stand
from restwise.use.project import Project
from tests.making import LOSE, Chance


class Names:
    """A program with other names, and how its values are told in them."""

    def __init__(self, program, chance):
        self.old = program
        words = ["a", "b", "c", "f", "g", "main", "back", "end", "on", "pair", "to", "way", "with", "zz"]
        self.functions = dict(zip(program.names, chance.sample(words, len(program))))
        self.labels = dict(zip(program.labels, chance.sample(words, len(program.labels))))
        steps = sorted({step for code in program.functions.values() for step in code.steps})
        self.steps = {step: chance.choice(words) for step in steps}
        self.new = renamed(program, functions=self.functions, labels=self.labels, steps=self.steps)
        self.indices = {}
        for name, code in program.functions.items():
            self.indices[name] = self.order(code)

    def order(self, code):
        """For each index of a code that in the code with other names, whose clauses are in another order."""
        row = []

        def walk(index):
            row.append(index)
            children = code.children(index)
            labels = code.nodes[index][1:] if code.nodes[index][0] == "handle" else ()
            clauses = sorted(zip(labels, children[2:]), key=lambda pair: self.labels[pair[0]])
            for child in children[:2] + tuple(top for _, top in clauses):
                walk(child)
        walk(0)
        return {old: new for new, old in enumerate(row)}

    def place(self, place):
        return (self.functions[place[0]], self.indices[place[0]][place[1]])

    def outcome(self, name, outcome):
        if outcome[0] == "ask":
            return ("ask", self.labels[outcome[1]])
        return ("rest", self.indices[name][outcome[1]]) if outcome[0] == "rest" else outcome

    def fact(self, name, fact):
        outcome = self.outcome(name, fact[-1])
        if len(fact) == 2:
            return (tuple(sorted(self.labels[label] for label in fact[0])), outcome)
        return (self.labels[fact[0]], tuple(sorted((self.labels[label], level) for label, level in fact[1])), outcome)

    def facts(self, name, facts):
        return Facts(tuple(self.fact(name, fact) for fact in facts.ways), tuple(self.fact(name, fact) for fact in facts.pairs))

    def event(self, event):
        return (event[0], *[self.place(item) if isinstance(item, tuple) and item else item for item in event[1:]])


class Renamed(unittest.TestCase):
    def pairs(self, many):
        for seed in range(many):
            names = ("f", "g", "loop", "main")[seed % 3:]
            program = Chance(seed, labels=("a", "b", "c")[:1 + seed % 3], names=names, doubling=0.5, holds=2).program(5 + seed % 18)
            yield program, Names(program, random.Random(seed))

    def test_facts(self):
        for program, names in self.pairs(80):
            old, new = least_table(program), least_table(names.new)
            for place in old:
                self.assertEqual(names.facts(place[0], old[place]), new[names.place(place)])

    def test_events_and_marks(self):
        for program, names in self.pairs(100):
            for name in program:
                old, new = Standings(program, name), Standings(names.new, names.functions[name])
                self.assertEqual({names.event(event) for event in old.events}, set(new.events))
                self.assertEqual((len(old), len(old.ended)), (len(new), len(new.ended)))
                marks, others = Marks(program, name), Marks(names.new, names.functions[name])
                for clause in marks:
                    self.assertEqual(marks.right(clause), others.right(names.place(clause)))

    def test_what_happens_to_holds(self):
        many = 0
        for program, names in self.pairs(80):
            for name in program:
                old, new = held_events(program, name), held_events(names.new, names.functions[name])
                self.assertEqual({names.place(place): words for place, words in old.items()}, new)
                many += len([words for words in old.values() if words])
        self.assertGreater(many, 30)

    def test_which_functions_can_stand_for_others(self):
        for program, names in self.pairs(80):
            for name in program:
                for other in program:
                    self.assertEqual(can_stand(program, name, other), can_stand(names.new, names.functions[name], names.functions[other]))

    def test_runs(self):
        for program, names in self.pairs(80):
            for name in program:
                for run in list(all_runs(program, name, 3, given=program.labels[:1], moves=60))[:8]:
                    given = tuple(sorted(names.labels[label] for label in run.given))
                    other = Run(names.new, names.functions[name], run.world, given=given, moves=60)
                    self.assertEqual(other.row, tuple(names.event(event) for event in run.row))
                    self.assertEqual((other.moves, other.tests), (run.moves, run.tests))
                    self.assertEqual(other.end, names.event(run.end) if run.end[0] == "stop" else run.end)
                    self.assertEqual(other.steps, tuple(names.steps[step] for step in run.steps))
                    self.assertEqual(other.asked, tuple(names.labels[label] for label in run.asked))

    def test_sayings(self):
        for program, names in self.pairs(40):
            one, other = Project.holding(program), Project.holding(names.new)
            for name in program:
                self.assertEqual(one.does_hold(("safe", name)), other.does_hold(("safe", names.functions[name])))
                for label in program.labels:
                    for mark in ("place", "jump", "move"):
                        self.assertEqual(one.does_hold(("marked", name, name, label, mark)),
                                         other.does_hold(("marked", names.functions[name], names.functions[name], names.labels[label], mark)))


class False_(unittest.TestCase):
    def test_a_hold_whose_asks_are_all_answered_by_clauses_with_a_rest_is_not_lost(self):
        standings = Standings(LOSE, "main")
        for ask in [("mid", 2)]:
            for handle in standings.answers(ask):
                clause = LOSE.clause(handle, "b")
                rests = [rest for rest in LOSE.rests if LOSE[clause[0]].owner(rest[1]) == clause[1]]
                self.assertTrue(rests)
        self.assertEqual(held_events(LOSE, "main"), {("mid", 1): ("lost",)})

    def test_functions_that_need_the_same_labels_to_end_can_stand_for_one_another(self):
        program = Program.from_lines("f: then ask a ask b", "g: then ask b ask a", "main: handle a: call f done done", "other: handle a: call g done done")
        table = least_table(program)
        self.assertEqual(table[("f", 0)].to(END).ways, table[("g", 0)].to(END).ways)
        self.assertFalse(can_stand(program, "f", "g"))
        self.assertNotIn(("stop", ("f", 2)), Standings(program, "main"))
        self.assertIn(("stop", ("g", 1)), Standings(program, "other"))


if __name__ == "__main__":
    unittest.main()
