"""[0.19]: each run with given labels comes to what some least fact tells, and each least fact is shown by some run."""

import unittest

from restwise.base.programs import Program
from restwise.need.rules import least_table
from tests import plain_rules
from tests.making import EXAMPLES, random_programs
from tests.told_by_runs import facts_told

LIMITS = (10, 20, 40, 150)


class Told(unittest.TestCase):
    def compare(self, program, tests=7):
        """How many least facts of functions no run of these shows."""
        table = least_table(program)
        lacking = []
        for name in program:
            told = facts_told(program, name, tests, LIMITS)
            for fact in told:
                self.assertTrue(table[(name, 0)].covers(fact), (program.lines, name, fact))
            for fact in table[(name, 0)]:
                if fact not in told:
                    lacking.append((name, fact))
        return lacking

    def test_examples(self):
        for program in EXAMPLES.values():
            self.assertEqual(self.compare(program), [])

    def test_programs_by_hand(self):
        for lines in (
            ("f: then ask a then ask b ask a", "main: handle a: call f ask b test rest then ask b rest"),
            ("f: test ask a then ask b ask a", "main: handle a: call f done then rest call loop", "loop: call loop"),
            ("f: test ask a then ask a ask a", "main: handle a: call f done then rest then step s rest"),
            ("f: then ask a ask b", "g: handle a: call f ask a then ask b rest", "main: handle b: call g done test ask a then ask a rest"),
            ("f: test done then ask a call f", "main: handle a: call f done then ask b rest"),
            ("f: then ask c then ask a ask b", "main: handle a b: call f ask c test rest done then ask a rest"),
            ("f: hold then ask a ask a", "main: handle a: call f hold ask a then ask a then ask a rest"),
            ("main: handle a: handle b: then ask a then ask b ask a done rest done test rest test done ask b",),
        ):
            self.assertEqual(self.compare(Program.from_lines(*lines)), [], lines)

    def test_random_programs(self):
        facts = lacking = 0
        for seed in range(130):
            names = ("f", "g", "loop", "main")[seed % 2:2 + seed % 3]
            program = random_programs(seed, 1, 4 + seed % 13, labels=("a", "b", "c")[:1 + seed % 3], names=names, doubling=0.5)[0]
            # Some facts need more tests or moves than these runs have.
            lacking += len(self.compare(program))
            facts += sum(len(least_table(program)[(name, 0)]) for name in program)
        self.assertGreater(facts, 400)
        self.assertLess(lacking, 6)


class Events(unittest.TestCase):
    def test_outcomes_of_other_nodes_are_events_of_runs(self):
        # What the table tells of a node to a rest: the clause comes to this rest first.
        program = Program.from_lines("main: handle a: ask a done test then step p rest test rest ask b")
        table = least_table(program)
        self.assertEqual(set(table[("main", 3)]), {((), ("rest", 6)), ((), ("rest", 8)), ((), ("ask", "b")), (("b",), plain_rules.END),
                                                   ("b", (), plain_rules.END)})


if __name__ == "__main__":
    unittest.main()
