"""Lines [9.1]: each form of line that is right, and the same with something changed."""

import random
import unittest

from restwise.base.programs import Program
from restwise.errors import InvalidLines, InvalidProgram
from restwise.need.families import END
from restwise.need.lines import MAX_LINES, Lines, is_lines, shown
from restwise.need.rules import least_table
from tests import plain_lines, plain_rules
from tests.making import EXAMPLES, FLIP, INNER, LOG, random_programs
from tests.test_rules import possible_facts
from tests.values import every_kind

WAY, BACK = ((), END), ("back",)


def main(index):
    return ("main", index)


class Forms(unittest.TestCase):
    """Each right last line, and the same lines with this last line changed."""

    def right(self, program, *lines, word=None):
        self.assertIs(is_lines(program, lines), True, lines[-1])
        self.assertTrue(plain_lines.is_lines(program, lines))
        told = Lines(program, lines)
        if word is not None:
            self.assertEqual(told.rule_at(len(lines) - 1), word)
        place, fact, uses = lines[-1]
        ahead = lines[:-1]
        for changed in self.changed_uses(uses, len(ahead)):
            other = ahead + ((place, fact, changed),)
            same = [lines[use][:2] for use in changed] == [lines[use][:2] for use in uses]
            self.assertIs(is_lines(program, other), plain_lines.is_lines(program, other), (other[-1], lines))
            if len(changed) != len(uses) or (len(set(changed)) != len(set(uses)) and not same):
                self.assertIs(is_lines(program, other), False, (other[-1], lines))
        for where in plain_rules.all_places(program):
            for other_fact in sum(possible_facts(program, where), []):
                if (where, other_fact) != (place, fact) and (where == place or other_fact == fact):
                    other = ahead + ((where, other_fact, uses),)
                    self.assertIs(is_lines(program, other), plain_lines.is_lines(program, other), other[-1])

    def changed_uses(self, uses, many):
        """One use too many, too few, exchanged, and another one."""
        others = range(many) if many <= 12 else random.Random(many).sample(range(many), 3)
        found = [uses[:at] + uses[at + 1:] for at in range(len(uses))]
        found += [uses[:at] + (use,) + uses[at:] for at in range(len(uses) + 1) for use in others]
        found += [uses[:at] + (use,) + uses[at + 1:] for at in range(len(uses)) for use in others if use != uses[at]]
        found += [uses[:at] + (uses[at + 1], uses[at]) + uses[at + 2:] for at in range(len(uses) - 1)]
        return [changed for changed in found if changed != uses]

    def test_leaves(self):
        program = Program.from_lines("main: handle a: then done then step s ask a done rest")
        for line in ((main(2), WAY, ()), (main(4), WAY, ()), (main(5), ((), ("ask", "a")), ()), (main(5), (("a",), END), ()),
                     (main(5), ("a", (), END), ()), (main(7), ((), ("rest", 7)), ())):
            self.right(program, line, word="leaf")
        for line in ((main(2), (("a",), END), ()), (main(5), WAY, ()), (main(7), WAY, ()), (main(5), ("a", (("a", "back"),), END), ()),
                     (main(2), ((), ("ask", "a")), ()), (main(7), (("a",), ("rest", 7)), ()), (main(0), WAY, ()), (main(1), WAY, ())):
            self.assertIs(is_lines(program, (line,)), False)

    def test_facts_that_are_taken_over(self):
        program = Program.from_lines("f: ask a", "main: then call f test hold ask b done")
        one = (("f", 0), (("a",), END), ())
        self.right(program, one, (main(1), (("a",), END), (0,)), word="same")
        two = (main(4), ("b", (), END), ())
        self.right(program, two, (main(3), ("b", (), END), (0,)), word="same")
        self.right(program, two, (main(3), ("b", (), END), (0,)), (main(2), ("b", (), END), (1,)), word="same")
        self.right(program, (main(5), WAY, ()), (main(2), WAY, (0,)), word="same")
        three = (("f", 0), ((), ("ask", "a")), ())
        self.right(program, three, (main(1), ((), ("ask", "a")), (0,)), (main(0), ((), ("ask", "a")), (1,)), word="same")

    def test_thens(self):
        program = Program.from_lines("main: then ask a ask b")
        one = {"asked": (main(1), ((), ("ask", "a")), ()), "way": (main(1), (("a",), END), ()), "pair": (main(1), ("a", (), END), ())}
        two = {"asked": (main(2), ((), ("ask", "b")), ()), "way": (main(2), (("b",), END), ()), "pair": (main(2), ("b", (), END), ())}
        for first, second, fact in (("way", "asked", (("a",), ("ask", "b"))), ("way", "way", (("a", "b"), END)),
                                    ("way", "pair", ("b", (("a", "on"),), END)), ("pair", "asked", ("a", (), ("ask", "b"))),
                                    ("pair", "way", ("a", (("b", "back"),), END))):
            self.right(program, one[first], two[second], (main(0), fact, (0, 1)), word="then")
        for first, second, fact in (("asked", "way", (("b",), ("ask", "a"))), ("pair", "pair", ("a", (("b", "back"),), END)),
                                    ("asked", "asked", ((), ("ask", "b"))), ("way", "way", (("a",), END)), ("way", "way", ("a", (), END))):
            self.assertIs(is_lines(program, (one[first], two[second], (main(0), fact, (0, 1)))), False)
        same = Program.from_lines("main: then ask a ask a")
        self.right(same, (main(1), (("a",), END), ()), (main(2), ("a", (), END), ()), (main(0), ("a", (), END), (0, 1)), word="then")
        self.right(same, (main(1), ("a", (), END), ()), (main(2), (("a",), END), ()), (main(0), ("a", (("a", "back"),), END), (0, 1)))

    # 3 then, 4 then, 5 rest, 6 step p, 7 test, 8 rest, 9 step q
    FOLLOWED = Program.from_lines("f: done", "main: handle a: done done then then rest step p test rest step q")

    def test_back(self):
        self.right(LOG, (main(11), BACK, ()), word="back")
        program = self.FOLLOWED
        self.right(program, (main(8), BACK, ()), word="back")
        step, other = (main(6), WAY, ()), (main(9), WAY, ())
        ended = (main(7), WAY, (1,))
        self.right(program, step, other, ended, (main(5), BACK, (0, 2)), word="back")
        rest, again = (main(8), ((), ("rest", 8)), ()), (main(7), ((), ("rest", 8)), (1,))
        self.right(program, step, rest, again, (main(8), BACK, ()), (main(5), BACK, (0, 2, 3)), word="back")
        self.assertIs(is_lines(program, (step, rest, again, (main(5), BACK, (0, 2)))), False)
        self.assertIs(is_lines(program, (step, rest, again, (main(8), BACK, ()), (main(5), BACK, (0, 3, 2)))), False)
        self.assertIs(is_lines(program, (step, (main(5), BACK, (0,)))), False)
        self.assertIs(is_lines(program, ((main(5), BACK, ()),)), False)
        for index in (0, 3, 6, 7):
            self.assertIs(is_lines(program, ((main(index), BACK, ()),)), False)

    # main: 0 handle a b, 1 call f, 2 last part: call g, 3 then of a, 4 rest, 5 step, 6 test of b, 7 rest, 8 ask c
    HANDLE = Program.from_lines("f: then ask a then ask b then ask c call f", "g: test done ask c",
                                "main: handle a b: call f call g then rest step s test rest ask c")

    def test_handles_by_all_that_the_least_table_has(self):
        words = {}
        programs = [self.HANDLE] + list(EXAMPLES.values()) + random_programs(81, 15, 12, labels=("a", "b", "c"), doubling=0.4)
        for program in programs:
            for place, facts in least_table(program).items():
                for fact in facts:
                    told = shown(program, place, fact)
                    word = told.rule_at(len(told) - 1)
                    words[word] = words.get(word, 0) + 1
                    self.assertTrue(plain_lines.is_lines(program, told.lines))
                    last = told.lines[-1]
                    for changed in self.changed_uses(last[2], len(told) - 1):
                        other = told.lines[:-1] + ((last[0], last[1], changed),)
                        self.assertIs(is_lines(program, other), plain_lines.is_line(program, other, len(other) - 1),
                                      (program.lines, other))
        self.assertEqual(sorted(words), ["asked", "dropped", "ended", "last", "leaf", "passed", "same", "then"])
        self.assertGreater(min(words.values()), 8, words)

    def test_ended_with_replaced_labels(self):
        program = Program.from_lines("main: handle a b: then ask a ask b done then rest step s test rest done")
        # 0 handle, 1 then, 2 ask a, 3 ask b, 4 done, 5 then, 6 rest, 7 step, 8 test, 9 rest, 10 done
        lines = ((main(2), (("a",), END), ()), (main(3), (("b",), END), ()), (main(1), (("a", "b"), END), (0, 1)), (main(4), WAY, ()),
                 (main(6), ((), ("rest", 6)), ()), (main(7), WAY, ()), (main(5), ((), ("rest", 6)), (4,)), (main(6), BACK, (5,)),
                 (main(9), ((), ("rest", 9)), ()), (main(8), ((), ("rest", 9)), (8,)), (main(9), BACK, ()))
        self.right(program, *lines, (main(0), WAY, (2, 3, 6, 7, 9, 10)), word="ended")
        for uses in ((2, 3, 6, 9, 7, 10), (2, 3, 9, 10, 6, 7), (2, 6, 7, 9, 10, 3), (2, 3, 6, 7, 9), (3, 2, 6, 7, 9, 10), (2, 3)):
            self.assertIs(is_lines(program, lines + ((main(0), WAY, uses),)), False)
        # To an ask the rests need not go on back, and no line may tell it.
        asking = Program.from_lines("main: handle a: ask a ask b then rest step s")
        lines = ((main(1), (("a",), END), ()), (main(2), ((), ("ask", "b")), ()), (main(4), ((), ("rest", 4)), ()),
                 (main(3), ((), ("rest", 4)), (2,)), (main(5), WAY, ()), (main(4), BACK, (4,)))
        self.right(asking, *lines, (main(0), ((), ("ask", "b")), (0, 1, 3)), word="last")
        self.assertIs(is_lines(asking, lines + ((main(0), ((), ("ask", "b")), (0, 1, 3, 5)),)), False)

    def test_dropped_asked_and_passed(self):
        program = Program.from_lines("main: handle a: test ask a ask b done test done test ask c rest")
        # 0 handle, 1 test, 2 ask a, 3 ask b, 4 done, 5 test, 6 done, 7 test, 8 ask c, 9 rest
        asked = ((main(2), ((), ("ask", "a")), ()), (main(1), ((), ("ask", "a")), (0,)))
        self.right(program, *asked, (main(6), WAY, ()), (main(5), WAY, (2,)), (main(0), WAY, (1, 3)), word="dropped")
        out = ((main(8), ((), ("ask", "c")), ()), (main(7), ((), ("ask", "c")), (2,)), (main(5), ((), ("ask", "c")), (3,)))
        self.right(program, *asked, *out, (main(0), ((), ("ask", "c")), (1, 4)), word="asked")
        passed = ((main(3), ((), ("ask", "b")), ()), (main(1), ((), ("ask", "b")), (0,)))
        self.right(program, *passed, (main(0), ((), ("ask", "b")), (1,)), word="passed")
        pair = ((main(8), ("c", (), END), ()), (main(7), ("c", (), END), (2,)), (main(5), ("c", (), END), (3,)))
        self.right(program, *asked, *pair, (main(0), ("c", (), END), (1, 4)), word="dropped")

    def test_pairs_in_the_work_and_in_a_clause(self):
        program = Program.from_lines("main: handle a: then ask a then ask b ask a ask c then ask c rest")
        # 0 handle, 1 then, 2 ask a, 3 then, 4 ask b, 5 ask a, 6 ask c, 7 then, 8 ask c, 9 rest
        way, second, third = (main(2), (("a",), END), ()), (main(4), ("b", (), END), ()), (main(5), (("a",), END), ())
        inner = (main(3), ("b", (("a", "back"),), END), (1, 2))
        work = (main(1), ("b", (("a", "back"),), END), (0, 3))
        clause = ((main(8), (("c",), END), ()), (main(9), ((), ("rest", 9)), ()), (main(7), (("c",), ("rest", 9)), (5, 6)), (main(9), BACK, ()))
        last = (main(6), (("c",), END), ())
        self.right(program, way, second, third, inner, work, *clause, last,
                   (main(0), ("b", (("c", "back"),), END), (4, 9, 7, 8)), word="ended")
        asked = (main(6), ((), ("ask", "c")), ())
        self.right(program, way, second, third, inner, work, *clause, asked,
                   (main(0), ("b", (("c", "back"),), ("ask", "c")), (4, 9, 7)), word="last")
        pair = (main(2), ("a", (), END), ())
        rest_way = (main(4), (("b",), END), ())
        behind = (main(3), (("a", "b"), END), (1, 2))
        work = (main(1), ("a", (("a", "back"), ("b", "back")), END), (0, 3))
        ask = ((main(8), ("c", (), END), ()), (main(9), ((), ("rest", 9)), ()), (main(7), ("c", (), ("rest", 9)), (5, 6)), (main(9), BACK, ()),
               (main(8), (("c",), END), ()), (main(7), (("c",), ("rest", 9)), (9, 6)))
        self.right(program, pair, rest_way, third, behind, work, *ask, last,
                   (main(0), ("c", (("b", "back"), ("c", "back")), END), (4, 7, 8, 11, 10, 8)), word="ended")

    def test_needs_of_pairs_in_a_clause(self):
        program = Program.from_lines("main: handle a: ask a done then ask b then ask c rest")
        # 0 handle, 1 ask a, 2 done, 3 then, 4 ask b, 5 then, 6 ask c, 7 rest
        work, done, rest, back = (main(1), ("a", (), END), ()), (main(2), WAY, ()), (main(7), ((), ("rest", 7)), ()), (main(7), BACK, ())
        first = ((main(4), ("b", (), END), ()), (main(6), (("c",), END), ()), (main(5), (("c",), ("rest", 7)), (5, 2)),
                 (main(3), ("b", (("c", "back"),), ("rest", 7)), (4, 6)))
        self.right(program, work, done, rest, back, *first, (main(0), ("b", (("c", "back"),), END), (0, 7, 3, 1)), word="ended")
        second = ((main(4), (("b",), END), ()), (main(6), ("c", (), END), ()), (main(5), ("c", (), ("rest", 7)), (5, 2)),
                  (main(3), ("c", (("b", "on"),), ("rest", 7)), (4, 6)))
        self.right(program, work, done, rest, back, *second, (main(0), ("c", (("b", "on"),), END), (0, 7, 3, 1)), word="ended")
        for fact in (("c", (), END), ("c", (("b", "back"),), END), ("b", (("c", "back"),), END)):
            self.assertIs(is_lines(program, (work, done, rest, back, *second, (main(0), fact, (0, 7, 3, 1)))), False)
        told = shown(program, main(0), ("c", (("b", "on"),), END))
        self.assertEqual((told.fact, told.rule_at(len(told) - 1)), (("c", (("b", "on"),), END), "ended"))

    def test_a_pair_of_the_work_makes_no_way_and_a_way_no_pair_without_one(self):
        program = Program.from_lines("main: handle a: test ask a ask b done rest")
        # 0 handle, 1 test, 2 ask a, 3 ask b, 4 done, 5 rest
        lines = ((main(2), ("a", (), END), ()), (main(1), ("a", (), END), (0,)), (main(4), WAY, ()), (main(5), ((), ("rest", 5)), ()),
                 (main(5), BACK, ()), (main(3), ((), ("ask", "b")), ()), (main(1), ((), ("ask", "b")), (5,)))
        for fact, uses in ((WAY, (1, 3, 4, 2)), (WAY, (1, 2, 3, 4)), (WAY, (1, 2)), (("a", (), END), (1, 2)), (("b", (), END), (1, 2)),
                           (("b", (), ("ask", "b")), (6,)), (("a", (), ("ask", "b")), (6,))):
            self.assertIs(is_lines(program, lines + ((main(0), fact, uses),)), False, (fact, uses))
        self.assertIs(is_lines(program, lines + ((main(0), ((), ("ask", "b")), (6,)),)), True)

    def test_pairs_at_the_end(self):
        program = Program.from_lines("main: handle a: ask a ask c rest")
        lines = ((main(1), (("a",), END), ()), (main(2), ("c", (), END), ()), (main(3), ((), ("rest", 3)), ()), (main(3), BACK, ()))
        self.right(program, *lines, (main(0), ("c", (), END), (0, 1, 2, 3)), word="ended")

    def test_changed_lines_anywhere(self):
        chance = random.Random(5)
        told = {True: 0, False: 0}
        for program in random_programs(83, 40, 12, labels=("a", "b", "c"), doubling=0.4):
            pairs = [(place, fact) for place, facts in least_table(program).items() for fact in facts]
            lines = shown(program, *chance.choice(pairs)).lines
            for _ in range(25):
                at = chance.randrange(len(lines))
                place, fact, uses = lines[at]
                kind = chance.randrange(3)
                if kind == 0:
                    place, fact = chance.choice(pairs)
                elif kind == 1:
                    uses = tuple(chance.randrange(at + 1) for _ in range(chance.randrange(3)))
                else:
                    uses = tuple(chance.sample(uses, len(uses)))
                other = lines[:at] + ((place, fact, uses),) + lines[at + 1:]
                self.assertIs(is_lines(program, other), plain_lines.is_lines(program, other))
                told[is_lines(program, other)] += 1
        self.assertGreater(min(told.values()), 50, told)


class Wrong(unittest.TestCase):
    RIGHT = ((main(10), WAY, ()), (main(11), ((), ("rest", 11)), ()), (main(9), ((), ("rest", 11)), (0, 1)))

    def wrong(self, *lines):
        self.assertIs(is_lines(LOG, lines), False, lines)
        with self.assertRaises(InvalidLines):
            Lines(LOG, lines)

    def test_the_number_of_lines(self):
        self.wrong()
        many = (self.RIGHT[0],) * MAX_LINES
        self.assertIs(is_lines(LOG, many), True)
        self.assertEqual(len(Lines(LOG, many)), 4000)
        self.wrong(*many, self.RIGHT[0])

    def test_places(self):
        self.assertIs(is_lines(LOG, self.RIGHT), True)
        for place in (main(12), main(-1), ("f", 0), ["main", 10], ("main", "10"), "main", None, ("main", 10, 0), ("main", 10 ** 60)):
            self.wrong((place, WAY, ()))
        self.assertIs(is_lines(LOG, ((main(5), (("get",), ("ask", "get")), ()),)), False)
        program = Program.from_lines("main: then done done")
        self.assertIs(is_lines(program, ((("main", True), WAY, ()),)), False)
        self.assertIs(is_lines(program, ((("main", 1), WAY, ()),)), True)

    def test_uses(self):
        for uses in ((0, 2), (0, 3), (-1, 1), (1, 0), (0,), (0, 1, 1), [0, 1], None, 0, (False, True), (0, True), ("0", 1), ((0,), 1),
                     (0, 10 ** 60), {0: 1}, (0, None)):
            self.wrong(*self.RIGHT[:2], (main(9), ((), ("rest", 11)), uses))
        self.wrong((main(9), ((), ("rest", 11)), (1, 2)), *self.RIGHT[:2])
        self.wrong((main(10), WAY, (0,)))

    def test_facts(self):
        for fact in (((), ("rest", True)), ((), ("rest", 10)), ((), ("rest", 0)), (("a",), END), ((), ("ask", "a")), ("back", "back"), ("back"),
                     ["back"], None, (), ((), END, ()), ("get", (("get", "on"),), END)):
            self.wrong(*self.RIGHT[:2], (main(9), fact, (0, 1)))
            self.wrong((main(11), fact, ()))

    def test_other_kinds(self):
        for value in every_kind() + [list(self.RIGHT), Lines(LOG, self.RIGHT), self.RIGHT[0], [self.RIGHT[0]], "lines"]:
            self.assertIs(is_lines(LOG, value), False)
            if value != self.RIGHT[0]:
                self.assertIs(is_lines(LOG, (value,)), False)
                self.assertIs(is_lines(LOG, self.RIGHT + (value,)), False)
            self.assertIs(is_lines(LOG, ((value, WAY, ()),)), False)
            self.assertIs(is_lines(LOG, ((main(10), value, ()),)), False)
            with self.assertRaises(InvalidLines):
                Lines(LOG, value)
            if value != ():
                self.assertIs(is_lines(LOG, ((main(10), WAY, value),)), False)
            if not isinstance(value, Program):
                for call in (is_lines, Lines):
                    with self.assertRaises(InvalidProgram):
                        call(value, self.RIGHT)
        self.assertIs(is_lines(LOG, ((main(10), WAY),)), False)
        self.assertIs(is_lines(LOG, ([main(10), WAY, ()],)), False)
        self.assertIs(is_lines(LOG, ((main(10), WAY, (), ()),)), False)

    def test_lines_of_another_program(self):
        lines = shown(FLIP, main(0), WAY).lines
        self.assertIs(is_lines(FLIP, lines), True)
        self.assertIs(is_lines(INNER, lines), False)
        self.assertIs(is_lines(Program.from_lines(*FLIP.lines), lines), True)


if __name__ == "__main__":
    unittest.main()
