"""Lines and facts that are judged many times: the same answers as one by one, and not slow."""

import itertools
import random
import time
import unittest

from restwise.around.held import watched
from restwise.base.programs import Program
from restwise.base.words import KEYWORDS, NO_NAMES, is_name
from restwise.need.families import END, Facts, is_covered, is_fact
from restwise.need.lines import Lines, is_lines, shown
from restwise.need.rules import history_of, least_families, least_table
from tests import plain_lines
from tests.making import INNER, LOG, random_programs
from tests.plain_facts import all_facts
from tests.plain_rules import covers
from tests.values import every_kind

STEP = (("main", 10), ((), ("end",)), ())


def quickest(call, times=7):
    best = None
    for _ in range(times):
        begun = time.perf_counter()
        call()
        best = min(best, time.perf_counter() - begun) if best is not None else time.perf_counter() - begun
    return best


class SameAnswers(unittest.TestCase):
    def odd(self, line):
        """The line with a boolean, a list or another value in the place of each part."""
        place, fact, uses = line
        found = [((place[0], bool(place[1])), fact, uses), (list(place), fact, uses), ((place[0], [place[1]]), fact, uses), ((place[0],), fact, uses), (place, list(fact), uses),
                 (place, fact[:-1] + (list(fact[-1]),), uses), (place, (list(fact[0]),) + fact[1:], uses), (place, fact, list(uses)), (None, fact, uses), (place, None, uses), (place, fact, None),
                 (place, fact, tuple(bool(use) for use in uses)), (place, fact, uses + (-1,)), (place, fact, uses + (10 ** 60,)), (place, fact), list(line), line + ((),)]
        if fact[-1][0] == "rest":
            found.append((place, fact[:-1] + (("rest", bool(fact[-1][1])),), uses))
        return found

    def test_odd_lines_behind_right_ones(self):
        program = Program.from_lines("main: handle a: ask a step p then rest step q")
        lines = shown(program, ("main", 0), ((), END)).lines
        for index, line in enumerate(lines):
            for odd in self.odd(line):
                whole = lines[:index + 1] + (odd,)
                wanted = plain_lines.is_lines(program, whole) if odd == line and repr(odd) == repr(line) else False
                self.assertEqual(is_lines(program, whole), wanted, odd)
                self.assertEqual(is_lines(program, lines[:index + 1] * 2 + (odd,)) if index == 0 else wanted, wanted)

    def test_booleans_that_are_equal_to_numbers(self):
        program = Program.from_lines("main: then step p handle a: ask a done rest")
        lines = ((("main", 1), ((), END), ()), (("main", 5), ((), ("rest", 5)), ()), (("main", 1), ((), END), ()), (("main", 5), ("back",), ()))
        self.assertTrue(is_lines(program, lines))
        self.assertFalse(is_lines(program, lines + ((("main", True), ((), END), ()),)))
        self.assertFalse(is_lines(program, lines[:1] + ((("main", True), ((), END), ()),)))
        one = Program.from_lines("main: handle a: ask a done rest")
        self.assertTrue(is_lines(one, ((("main", 3), ((), ("rest", 3)), ()),) * 2))
        small = Program.from_lines("f: handle a: done done rest", "main: handle a: ask a done rest")
        used = ((("main", 1), (("a",), END), ()), (("main", 1), (("a",), END), ()))
        self.assertTrue(is_lines(small, used))
        then = Program.from_lines("main: then done done")
        both = ((("main", 1), ((), END), ()), (("main", 2), ((), END), ()))
        self.assertTrue(is_lines(then, both + ((("main", 0), ((), END), (0, 1)),) * 2))
        for uses in ((False, True), (0, True), (False, 1)):
            self.assertFalse(is_lines(then, both + ((("main", 0), ((), END), (0, 1)), (("main", 0), ((), END), uses))))
            self.assertFalse(is_lines(then, both + ((("main", 0), ((), END), uses),)))

    def test_values_of_every_kind_behind_right_lines(self):
        for value in every_kind():
            for line in (value, (value, STEP[1], ()), (STEP[0], value, ()), (STEP[0], STEP[1], value)):
                wanted = line == STEP and isinstance(line[2], tuple)
                self.assertEqual(is_lines(LOG, (STEP, line)), wanted, value)
                self.assertEqual(is_lines(LOG, (STEP, STEP, line, STEP)), wanted, value)

    def test_lines_that_are_mixed_and_spoilt(self):
        many = {True: 0, False: 0}
        for seed in range(40):
            chance = random.Random(seed)
            program = random_programs(seed, 1, 6 + seed % 10, labels=("a", "b"), doubling=0.5)[0]
            facts = [(place, fact) for place, told in least_table(program).items() for fact in told]
            whole = ()
            for place, fact in chance.sample(facts, min(4, len(facts))):
                more = shown(program, place, fact).lines
                whole = whole + tuple((spot, told, tuple(use + len(whole) for use in uses)) for spot, told, uses in more)
            for _ in range(25):
                lines = list(whole)
                at = chance.randrange(len(lines))
                place, fact, uses = lines[at]
                lines[at] = chance.choice([(place, fact, tuple(chance.randrange(len(lines)) for _ in uses)), (place, lines[chance.randrange(len(lines))][1], uses),
                                           (lines[chance.randrange(len(lines))][0], fact, uses), lines[chance.randrange(len(lines))], (place, fact, uses)])
                right = plain_lines.is_lines(program, lines) if self.has_right_facts(program, lines) else False
                self.assertEqual(is_lines(program, tuple(lines)), right)
                many[right] += 1
        self.assertGreater(min(many.values()), 80)

    def has_right_facts(self, program, lines):
        """Whether each fact is one that its node can have; by a line of its own."""
        from restwise.need.rules import is_fact_at
        shape = program.shape
        return all(fact == ("back",) and program.node(place)[0] == "rest" or is_fact_at(shape, shape.numbers[place], fact) for place, fact, _ in lines)

    def test_facts_that_others_cover(self):
        every = all_facts(("a", "b"), [END, ("ask", "a"), ("rest", 2)])
        for one in every:
            for other in every:
                self.assertEqual(is_covered(one, other), covers(one, other))
        for seed in range(60):
            chance = random.Random(seed)
            kept = chance.sample(every, 6)
            facts = Facts(tuple(fact for fact in kept if len(fact) == 2), tuple(fact for fact in kept if len(fact) == 3))
            for fact in every + [("c", (), END), (("c",), END), ("a", (("c", "back"),), END), (("a", "c"), ("ask", "c"))]:
                self.assertEqual(facts.covers(fact), any(covers(fact, other) for other in kept))

    def test_tables_that_grow_at_once_and_by_rounds(self):
        for seed in range(200):
            names = ("f", "g", "loop", "main")[seed % 3:]
            program = random_programs(seed, 1, 6 + seed % 26, labels=("a", "b", "c")[:1 + seed % 3], names=names, doubling=0.5, holds=2)[0]
            for whole in [program] + [watched(program, hold) for hold in program.holds[:1]]:
                last = [rows[-1][1] for rows in history_of(whole)[:len(least_table(whole))]]
                self.assertEqual(least_families(whole), last)

    def test_names(self):
        self.assertEqual(tuple(NO_NAMES), KEYWORDS)
        for word in ("a", "z", "abcdefgh"):
            self.assertTrue(is_name(word))
        for word in ("", "A", "aB", "a1", "a_", "a b", "abcdefghi", "a\n", "~a", " a", "-") + KEYWORDS:
            self.assertFalse(is_name(word))


class Fast(unittest.TestCase):
    def shifted(self, lines, many):
        """The same lines again and again, each time with uses of their own."""
        found = ()
        while len(found) + len(lines) <= many:
            found = found + tuple((place, fact, tuple(use + len(found) for use in uses)) for place, fact, uses in lines)
        return found

    def test_many_lines(self):
        one = quickest(lambda: is_lines(LOG, (STEP,)), 50)
        self.assertTrue(is_lines(LOG, (STEP,) * 4000))
        self.assertLess(quickest(lambda: is_lines(LOG, (STEP,) * 4000)), 800 * one)
        self.assertLess(quickest(lambda: Lines(LOG, (STEP,) * 4000)), 800 * one)

    def test_many_lines_with_uses_of_their_own(self):
        lines = shown(INNER, ("in", 0), (("b",), END)).lines
        ten = quickest(lambda: is_lines(INNER, lines), 50)
        whole = self.shifted(lines, 4000)
        self.assertTrue(is_lines(INNER, whole))
        # Four hundred times the ten lines, in less than the time of a hundred readings.
        self.assertLess(quickest(lambda: is_lines(INNER, whole)), 150 * ten)

    def test_many_facts(self):
        labels, goals = ("a", "b", "c"), (END, ("ask", "a"), ("rest", 3))
        ways = [(row, goal) for many in range(4) for row in itertools.combinations(labels, many) for goal in goals]
        pairs = [fact for fact in all_facts(labels, goals) if len(fact) == 3]
        every = ways + pairs
        facts = Facts(tuple(ways[:4]), tuple(pairs[:4]))
        look = quickest(lambda: [is_fact(fact) for fact in every])
        self.assertLess(quickest(lambda: [facts.covers(fact) for fact in every]), 4 * look)
        self.assertLess(quickest(lambda: [is_covered(fact, ways[0]) for fact in every]), 5 * look)
        self.assertLess(quickest(lambda: [is_fact(fact) for fact in every]), 0.02)


if __name__ == "__main__":
    unittest.main()
