"""`Lines` with all that they answer, and `shown`, `is_shown`, `round_of` [9.2]."""

import random
import unittest
from unittest import mock

from restwise.base.programs import Program
from restwise.errors import InvalidFact, InvalidNumber, InvalidOperation, InvalidProgram, TooMany, UnknownPlace
from restwise.need import lines as lines_module
from restwise.need.families import END
from restwise.need.lines import MAX_LINES, Lines, is_lines, is_shown, round_of, shown
from restwise.need.rules import least_table
from tests import plain_lines, plain_rules
from tests.making import EXAMPLES, FLIP, INNER, LOG, OUTER, random_programs
from tests.test_rules import possible_facts
from tests.values import every_kind

WAY, BACK = ((), END), ("back",)
REST = ((), ("rest", 11))


def main(index):
    return ("main", index)


STEP, LEAF, THEN = (main(10), WAY, ()), (main(11), REST, ()), (main(9), REST, (0, 1))
SHORT = Lines(LOG, (STEP, LEAF, THEN))


class Told(unittest.TestCase):
    def test_properties(self):
        self.assertEqual((SHORT.program, SHORT.lines, SHORT.place, SHORT.fact, SHORT.height),
                         (LOG, (STEP, LEAF, THEN), main(9), REST, 2))
        self.assertEqual(Lines(LOG, (STEP,)).height, 1)
        self.assertEqual(Lines(LOG, ((main(11), BACK, ()),)).fact, BACK)

    def test_heights(self):
        lines = shown(INNER, ("in", 0), (("b",), END))
        self.assertEqual([lines.height_at(index) for index in range(len(lines))], plain_lines.heights(lines.lines))
        self.assertEqual(lines.height_at(len(lines) - 1), lines.height)

    def test_rules(self):
        lines = shown(INNER, ("in", 0), (("b",), END))
        words = {lines[index][0:2]: lines.rule_at(index) for index in range(len(lines))}
        self.assertEqual(words[(("in", 0), (("b",), END))], "ended")
        self.assertEqual(words[(("in", 4), BACK)], "back")
        self.assertEqual(words[(("in", 4), ((), ("rest", 4)))], "leaf")
        self.assertEqual(words[(("in", 3), ((), ("rest", 4)))], "same")
        self.assertEqual(words[(("in", 1), (("a", "b"), END))], "same")
        self.assertEqual(words[(("f", 0), (("a", "b"), END))], "then")

    def test_upto(self):
        self.assertEqual(SHORT.upto(0), Lines(LOG, (STEP,)))
        self.assertEqual(SHORT.upto(1).lines, (LEAF,))
        self.assertEqual(SHORT.upto(2), SHORT)
        more = Lines(LOG, (LEAF, STEP, LEAF, (main(9), REST, (1, 2)), (main(11), BACK, ()), (main(9), REST, (1, 0))))
        self.assertEqual(more.upto(3).lines, (STEP, LEAF, (main(9), REST, (0, 1))))
        self.assertEqual(more.upto(5).lines, (LEAF, STEP, (main(9), REST, (1, 0))))
        self.assertEqual(more.upto(4).lines, ((main(11), BACK, ()),))

    def test_followed_by(self):
        both = SHORT.followed_by(Lines(LOG, (LEAF, STEP, (main(9), REST, (1, 0)))))
        self.assertEqual(both.lines, (STEP, LEAF, THEN, LEAF, STEP, (main(9), REST, (4, 3))))
        self.assertEqual((both.place, both.fact), (main(9), REST))
        self.assertEqual(SHORT.followed_by(SHORT.upto(0)).fact, WAY)
        self.assertEqual(SHORT.lines, (STEP, LEAF, THEN))
        again = Lines(Program.from_lines(*LOG.lines), (STEP,))
        self.assertEqual(len(SHORT.followed_by(again)), 4)

    def test_followed_by_too_many(self):
        many = Lines(LOG, (STEP,) * (MAX_LINES - 3))
        self.assertEqual(len(many.followed_by(SHORT)), MAX_LINES)
        for one, other in ((many.followed_by(SHORT.upto(0)), SHORT), (many, many), (SHORT, many.followed_by(SHORT.upto(0)))):
            with self.assertRaises(TooMany) as caught:
                one.followed_by(other)
            self.assertEqual(caught.exception.limit, 4000)
        for other in every_kind() + [SHORT.lines, shown(FLIP, main(0), WAY)]:
            if not isinstance(other, Lines) or other.program != LOG:
                with self.assertRaises(InvalidOperation):
                    many.followed_by(other)

    def test_trimmed(self):
        self.assertEqual(SHORT.trimmed(), SHORT)
        more = Lines(LOG, (LEAF, STEP, LEAF, STEP, (main(9), REST, (1, 0)), (main(11), BACK, ()), (main(9), REST, (3, 2))))
        self.assertEqual(more.trimmed().lines, (LEAF, STEP, (main(9), REST, (1, 0))))
        self.assertEqual(SHORT.followed_by(SHORT).trimmed(), SHORT)

    def test_trimmed_only_what_tells_the_same_by_the_same_lines(self):
        program = Program.from_lines("main: then test done step s test done step s")
        one, two, three, four = [(main(index), WAY, ()) for index in (2, 3, 5, 6)]
        test = ((main(1), WAY, (0,)), (main(4), WAY, (2,)))
        lines = Lines(program, (one, two, three, four, (main(1), WAY, (0,)), (main(4), WAY, (2,)), (main(0), WAY, (4, 5))))
        self.assertEqual(lines.trimmed().lines, (one, three, (main(1), WAY, (0,)), (main(4), WAY, (1,)), (main(0), WAY, (2, 3))))
        self.assertEqual(len(test), 2)
        # The same fact by other lines stands twice.
        twice = Program.from_lines("f: test done step s", "main: then call f call f")
        rows = ((("f", 1), WAY, ()), (("f", 2), WAY, ()), (("f", 0), WAY, (0,)), (("f", 0), WAY, (1,)), (main(1), WAY, (2,)), (main(2), WAY, (3,)),
                (main(0), WAY, (4, 5)))
        self.assertEqual(Lines(twice, rows).trimmed().lines, rows)
        # What is the same only once others are put together stands once, too.
        rows = ((("f", 1), WAY, ()), (("f", 1), WAY, ()), (("f", 0), WAY, (0,)), (("f", 0), WAY, (1,)), (main(1), WAY, (2,)), (main(2), WAY, (3,)),
                (main(0), WAY, (4, 5)))
        self.assertEqual(Lines(twice, rows).trimmed().lines, (
            (("f", 1), WAY, ()), (("f", 0), WAY, (0,)), (main(1), WAY, (1,)), (main(2), WAY, (1,)), (main(0), WAY, (2, 3))))

    def test_trimmed_lines_show_the_same(self):
        chance = random.Random(9)
        for program in random_programs(91, 30, 12, doubling=0.4):
            pairs = [(place, fact) for place, facts in least_table(program).items() for fact in facts]
            lines = shown(program, *chance.choice(pairs))
            for _ in range(4):
                lines = shown(program, *chance.choice(pairs)).followed_by(lines)
            told = lines.trimmed()
            self.assertEqual((told.place, told.fact, told.height), (lines.place, lines.fact, lines.height))
            self.assertEqual(len(set(told.lines)), len(told))
            self.assertEqual(told.trimmed(), told)
            self.assertEqual(told.upto(len(told) - 1), told)

    def test_sequence(self):
        self.assertEqual(([SHORT[index] for index in range(3)], len(SHORT), list(SHORT)), ([STEP, LEAF, THEN], 3, [STEP, LEAF, THEN]))
        for index in (-1, 3, True, False, None, "0", (0,), 10 ** 60, -(10 ** 99), [], {}):
            for call in (lambda: SHORT[index], lambda: SHORT.height_at(index), lambda: SHORT.upto(index), lambda: SHORT.rule_at(index)):
                with self.assertRaises(InvalidNumber) as caught:
                    call()
                self.assertIs(caught.exception.number, index)

    def test_membership(self):
        lines = Lines(LOG, (STEP, LEAF, THEN, (main(11), BACK, ())))
        for value in ((main(10), WAY), (main(9), REST), (main(11), BACK)):
            self.assertIs(value in lines, True)
        for value in every_kind() + [(main(11), WAY), (main(10), REST), STEP, WAY, [main(10), WAY], (main(10), BACK), ((main(10), WAY),)]:
            self.assertIs(value in lines, False)
        program = Program.from_lines("main: then done done")
        lines = Lines(program, ((main(1), WAY, ()),))
        self.assertEqual([((("main", index), WAY) in lines) for index in (1, True)], [True, False])

    def test_equality_and_texts(self):
        self.assertEqual(SHORT, Lines(Program.from_lines(*LOG.lines), (STEP, LEAF, THEN)))
        self.assertNotEqual(SHORT, Lines(LOG, (LEAF, STEP, (main(9), REST, (1, 0)))))
        self.assertNotEqual(SHORT, SHORT.lines)
        self.assertNotEqual(SHORT, Lines(LOG.with_function("f", LOG["main"]), (STEP, LEAF, THEN)))
        self.assertEqual([str(SHORT), str(SHORT.upto(0))], ["3 lines, height 2", "1 lines, height 1"])


class Shown(unittest.TestCase):
    def check(self, program, place, fact, want):
        """`want` is the round of the fact, or None."""
        self.assertEqual(round_of(program, place, fact), want, (program.lines, place, fact))
        if want is None:
            with self.assertRaises(InvalidOperation):
                shown(program, place, fact)
            return None
        lines = shown(program, place, fact)
        self.assertIs(is_lines(program, lines.lines), True)
        self.assertEqual((lines.program, lines.place, lines.height), (program, place, want))
        self.assertTrue(plain_rules.covers(fact, lines.fact))
        self.assertIs(is_shown(program, place, fact, lines.lines), True)
        return lines

    def test_all_facts_of_the_examples(self):
        for program in EXAMPLES.values():
            rounds, _ = plain_rules.rounds(program)
            for place in rounds:
                for fact in sum(possible_facts(program, place), []):
                    known = [many for other, many in rounds[place].items() if plain_rules.covers(fact, other)]
                    self.check(program, place, fact, min(known) if known else None)

    def test_random_programs_against_a_plain_reading(self):
        chance = random.Random(10)
        told = {True: 0, False: 0}
        for seed in range(60):
            names = ("f", "g", "loop", "main")[seed % 2:2 + seed % 3]
            program = random_programs(seed, 1, 4 + seed % 14, labels=("a", "b", "c")[:1 + seed % 3], names=names, doubling=0.4)[0]
            rounds, backs = plain_rules.rounds(program)
            for place in rounds:
                facts = list(rounds[place]) + chance.choices(sum(possible_facts(program, place), []), k=3)
                for fact in chance.sample(facts, min(len(facts), 6)):
                    known = [many for other, many in rounds[place].items() if plain_rules.covers(fact, other)]
                    lines = self.check(program, place, fact, min(known) if known else None)
                    told[lines is None] += 1
                    if lines is not None:
                        self.assertTrue(plain_lines.is_lines(program, lines.lines))
        self.assertGreater(min(told.values()), 300, told)

    def test_a_greater_fact_can_be_shown_by_less_height(self):
        # The ask goes on at once, and to end without it takes a longer way.
        program = Program.from_lines("f: test ask a hold hold hold hold done", "main: call f")
        self.check(program, ("f", 0), (("a",), END), 2)
        self.check(program, ("f", 0), WAY, 6)
        self.check(program, main(0), (("a",), END), 3)
        self.check(program, main(0), WAY, 7)
        self.assertEqual(least_table(program)[main(0)].to(END).ways, (WAY,))

    def test_facts_that_another_one_covers(self):
        program = Program.from_lines("main: test done ask a")
        self.assertEqual(self.check(program, main(0), (("a",), END), 2).height, 2)
        self.assertEqual(round_of(program, main(2), ("a", (("a", "back"),), END)), 1)

    def test_is_shown_with_any_height_and_by_any_covering_fact(self):
        program = Program.from_lines("f: test ask a hold hold done", "main: call f")
        slow, fast = shown(program, main(0), WAY), shown(program, main(0), (("a",), END))
        self.assertIs(is_shown(program, main(0), (("a",), END), slow.lines), True)
        self.assertIs(is_shown(program, main(0), WAY, fast.lines), False)
        self.assertIs(is_shown(program, ("f", 0), WAY, slow.lines), False)
        self.assertIs(is_shown(program, ("f", 0), WAY, slow.upto(len(slow) - 2).lines), True)
        both = fast.followed_by(slow)
        self.assertIs(is_shown(program, main(0), WAY, both.lines), True)
        self.assertIs(is_shown(program, main(0), WAY, slow.followed_by(fast).lines), False)

    def test_back_shows_no_fact(self):
        lines = ((main(11), BACK, ()),)
        self.assertIs(is_lines(LOG, lines), True)
        self.assertIs(is_shown(LOG, main(11), REST, lines), False)
        self.assertIs(is_shown(LOG, main(11), REST, (LEAF,)), True)

    def test_is_shown_of_other_values(self):
        for value in every_kind() + [SHORT, list(SHORT.lines), SHORT.lines[0], shown(FLIP, main(0), WAY).lines, SHORT.lines + (None,)]:
            self.assertIs(is_shown(LOG, main(9), REST, value), False)

    def test_facts_that_never_happen_are_shown_by_nothing(self):
        self.check(INNER, main(0), WAY, None)
        self.check(OUTER, main(0), WAY, None)
        self.check(OUTER, ("in", 0), WAY, None)

    def test_facts_that_the_node_cannot_have(self):
        for fact in every_kind() + [BACK, (("a",), END), ((), ("rest", 10)), ((), ("rest", True)), ("get", (("get", "on"),), END)]:
            for call in (lambda: shown(LOG, main(9), fact), lambda: is_shown(LOG, main(9), fact, None), lambda: round_of(LOG, main(9), fact)):
                with self.assertRaises(InvalidFact):
                    call()

    def test_the_first_wrong_argument_decides(self):
        for call in (shown, round_of, lambda *more: is_shown(*more, None)):
            for arguments, kind in (((None, None, None), InvalidProgram), ((LOG, None, None), UnknownPlace), ((LOG, main(12), None), UnknownPlace),
                                    ((LOG, main(0), None), InvalidFact)):
                with self.assertRaises(kind):
                    call(*arguments)

    def test_too_many_lines(self):
        fact = (("b",), END)
        many = len(shown(INNER, ("in", 0), fact))
        with mock.patch.object(lines_module, "MAX_LINES", many):
            self.assertEqual(len(shown(INNER, ("in", 0), fact)), many)
        with mock.patch.object(lines_module, "MAX_LINES", many - 1):
            with self.assertRaises(TooMany) as caught:
                shown(INNER, ("in", 0), fact)
            self.assertEqual(caught.exception.limit, many - 1)
            with self.assertRaises(InvalidOperation):
                shown(INNER, main(0), WAY)


if __name__ == "__main__":
    unittest.main()
