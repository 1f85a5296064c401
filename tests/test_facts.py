"""Facts [0.16] to [0.18], [6.1], [6.2]: what they are, what covers what, and `Facts`."""

import random
import unittest

from restwise.errors import InvalidFact, InvalidNumber, InvalidOperation, InvalidWord
from restwise.need.families import END, Facts, is_covered, is_fact, is_need, is_outcome, joined, level_of, need_of
from tests import plain_facts, plain_rules
from tests.values import every_kind

SIX = ("a", "b", "c", "d", "e", "f")
SEVEN = SIX + ("g",)
OUTCOMES = (END, ("ask", "a"), ("ask", "b"), ("rest", 3), ("rest", 12))


class Judged(unittest.TestCase):
    def test_outcomes(self):
        for value in (END, ("ask", "c"), ("rest", 0), ("rest", 39), ("rest", 10 ** 60 - 1)):
            self.assertIs(is_outcome(value), True, value)
        for value in (("end", "a"), ("ask",), ("ask", "rest"), ("ask", "C"), ("ask", 1), ("ask", "a", "b"), ("rest",), ("rest", -1),
                      ("rest", True), ("rest", False), ("rest", "0"), ("rest", 10 ** 60), ("back",), ["end"], "end", (END,), ("",),
                      ("ask", None), ("ask", ["a"]), ("rest", (1,)), (), None):
            self.assertIs(is_outcome(value), False, value)

    def test_needs(self):
        for value in ((), (("a", "on"),), (("a", "back"), ("b", "on")), tuple((label, "on") for label in SIX)):
            self.assertIs(is_need(value), True, value)
        for value in ((("b", "on"), ("a", "on")), (("a", "on"), ("a", "back")), (("a", "back"), ("a", "on")), (("a", "off"),),
                      (("a", ""),), (("a",),), (("A", "on"),), (("rest", "on"),), ("a", "on"), [("a", "on")], (["a", "on"],),
                      tuple((label, "on") for label in SEVEN), (("a", "on", "b"),), ((1, "on"),), (("a", True),), "", None, (None,),
                      {"a": "on"}, (("a", ("on",)),)):
            self.assertIs(is_need(value), False, value)

    def test_ways(self):
        for value in (((), END), (("a", "b"), ("ask", "a")), (SIX, END), (SIX, ("ask", "f")), (SIX[:5], ("ask", "g")), ((), ("rest", 7))):
            self.assertIs(is_fact(value), True, value)
        for value in ((SEVEN, END), (SIX, ("ask", "g")), (("b", "a"), END), (("a", "a"), END), (["a"], END), ("a", END), (("A",), END),
                      ((), ("ask", "then")), ((), ("end", "a")), ((), "end"), ((),), ((), END, ()), [(), END], (None, END), ((1,), END),
                      ((), ("rest", True)), ((), ("back",)), ("back",)):
            self.assertIs(is_fact(value), False, value)

    def test_pairs(self):
        for value in (("a", (), END), ("a", (("a", "back"),), ("ask", "a")), ("g", (("a", "on"), ("b", "back")), ("rest", 0)),
                      ("a", tuple((label, "on") for label in SIX[1:]), ("ask", "a")),
                      ("a", (("a", "back"),) + tuple((label, "on") for label in SIX[1:]), END)):
            self.assertIs(is_fact(value), True, value)
        for value in (("a", (("a", "on"),), END), ("a", ((("b", "on"), ("a", "on"))), END), ("A", (), END), (1, (), END), ("a", [], END),
                      ("a", ("b",), END), ("a", (("b", "up"),), END), ("a", (), ("back",)), ("a", (), END, ()), ["a", (), END],
                      ("g", tuple((label, "on") for label in SIX), END), ("a", tuple((label, "on") for label in SIX[1:]), ("ask", "g")),
                      (("a",), (), END), ("rest", (), END), (None, (), END)):
            self.assertIs(is_fact(value), False, value)

    def test_each_value_gets_an_answer(self):
        for value in every_kind():
            for judge in (is_outcome, is_need, is_fact):
                self.assertIs(type(judge(value)), bool)
            for part in ((value, END), ((), value), ("a", value, END), ("a", (), value), (value, (), END)):
                self.assertIs(type(is_fact(part)), bool)


class Needs(unittest.TestCase):
    NEED = (("a", "on"), ("c", "back"))

    def test_levels(self):
        self.assertEqual([level_of(self.NEED, label) for label in "abc"], ["on", "", "back"])
        self.assertEqual(level_of((), "a"), "")
        for need in [value for value in every_kind() if value != ()] + [(("a", "off"),)]:
            with self.assertRaises(InvalidFact):
                level_of(need, None)
        for label in [value for value in every_kind() if value not in ("get", "or")]:
            with self.assertRaises(InvalidWord):
                level_of(self.NEED, label)

    def test_needs_of_two_tuples(self):
        self.assertEqual(need_of(("a", "b"), ("b", "c")), (("a", "on"), ("b", "back"), ("c", "back")))
        self.assertEqual([need_of((), ()), need_of(("b",), ()), need_of((), ("b",))], [(), (("b", "on"),), (("b", "back"),)])
        self.assertEqual(len(need_of(SIX, SIX)), 6)
        self.assertEqual(need_of(SIX[:3], SIX[3:]), tuple((label, "on" if label < "d" else "back") for label in SIX))
        for on, back in ((SIX, ("g",)), (SIX[:4], ("e", "f", "g")), (SEVEN[1:], ("a",))):
            with self.assertRaises(InvalidFact):
                need_of(on, back)
        for labels in [value for value in every_kind() if value not in ((), ("get",), ("get", "put"))] + [("b", "a"), ("a", "a"), SEVEN]:
            for make in (lambda: need_of(labels, ()), lambda: need_of((), labels)):
                with self.assertRaises(InvalidFact):
                    make()

    def test_joined_needs(self):
        self.assertEqual(joined(), ())
        self.assertEqual(joined(self.NEED), self.NEED)
        self.assertEqual(joined((("a", "on"), ("b", "on")), (("b", "back"), ("c", "on")), (("c", "on"),)),
                         (("a", "on"), ("b", "back"), ("c", "on")))
        self.assertEqual(joined((("b", "back"),), (("b", "on"),)), (("b", "back"),))
        self.assertEqual(len(joined(*[((label, "on"),) for label in SIX])), 6)
        with self.assertRaises(InvalidFact):
            joined(*[((label, "on"),) for label in SEVEN])
        for value in [value for value in every_kind() if value != ()]:
            for needs in ((value,), (self.NEED, value), (value, self.NEED)):
                with self.assertRaises(InvalidFact):
                    joined(*needs)

    def test_joined_needs_against_a_plain_reading(self):
        needs = plain_facts.needs(("a", "b", "c"))
        for one in needs:
            for other in needs:
                both = joined(one, other)
                for label in "abc":
                    ranks = ("", "on", "back")
                    self.assertEqual(ranks.index(level_of(both, label)),
                                     max(ranks.index(level_of(one, label)), ranks.index(level_of(other, label))))


class Covered(unittest.TestCase):
    def test_ways(self):
        self.assertIs(is_covered((("a", "b"), END), (("a",), END)), True)
        self.assertIs(is_covered((("a",), END), (("a",), END)), True)
        self.assertIs(is_covered((("a",), END), (("b",), END)), False)
        self.assertIs(is_covered((("a",), END), (("a", "b"), END)), False)
        self.assertIs(is_covered((("a",), END), ((), ("ask", "a"))), False)

    def test_pairs(self):
        self.assertIs(is_covered(("a", (("a", "back"), ("b", "back")), END), ("a", (("b", "on"),), END)), True)
        self.assertIs(is_covered(("a", (("b", "on"),), END), ("a", (("b", "back"),), END)), False)
        self.assertIs(is_covered(("a", (), END), ("b", (), END)), False)
        self.assertIs(is_covered(("a", (), END), ("a", (), ("ask", "a"))), False)

    def test_a_way_and_a_pair(self):
        self.assertIs(is_covered((("a",), END), ("a", (), END)), False)
        self.assertIs(is_covered(("a", (), END), ((), END)), False)

    def test_all_facts_against_a_plain_reading(self):
        every = plain_facts.all_facts(("a", "b"), OUTCOMES[:3])
        for one in every:
            for other in every:
                self.assertIs(is_covered(one, other), plain_rules.covers(one, other), (one, other))

    def test_wrong_arguments(self):
        for value in every_kind() + [("back",), (("b", "a"), END), ((), ("rest", True))]:
            for one, other in ((value, ((), END)), (((), END), value), (value, None)):
                with self.assertRaises(InvalidFact):
                    is_covered(one, other)


class Kept(unittest.TestCase):
    def test_nothing(self):
        facts = Facts()
        self.assertEqual((facts.ways, facts.pairs, facts.labels, facts.outcomes, len(facts), bool(facts), str(facts), list(facts)),
                         ((), (), (), (), 0, False, "0 ways, 0 pairs", []))
        self.assertEqual(facts, Facts((), ()))

    def test_only_the_least_ones_in_order(self):
        facts = Facts((((), ("rest", 12)), (("a", "b"), END), (("b",), END), (("b",), END), (("a",), ("ask", "c")), ((), ("rest", 3))),
                      (("b", (), END), ("a", (("b", "back"),), END), ("a", (("b", "on"),), END), ("b", (("b", "back"),), END)))
        self.assertEqual(facts.ways, (((), ("rest", 3)), ((), ("rest", 12)), (("a",), ("ask", "c")), (("b",), END)))
        self.assertEqual(facts.pairs, (("a", (("b", "on"),), END), ("b", (), END)))
        self.assertEqual(facts.labels, ("a", "b", "c"))
        self.assertEqual(facts.outcomes, (("ask", "c"), END, ("rest", 3), ("rest", 12)))
        self.assertEqual((len(facts), bool(facts), str(facts)), (6, True, "4 ways, 2 pairs"))
        self.assertEqual(tuple(facts), facts.ways + facts.pairs)

    def test_in_any_order_and_several_times(self):
        chance = random.Random(3)
        for _ in range(120):
            some = plain_facts.chosen(chance, ("a", "b", "c")[:1 + chance.randrange(3)], OUTCOMES[:chance.randrange(1, 5)], 12)
            facts = Facts(*plain_facts.split(some))
            again = some + chance.sample(some, len(some) // 2)
            chance.shuffle(again)
            self.assertEqual(facts, Facts(*plain_facts.split(again)))
            self.assertEqual(set(facts), plain_rules.least(some))
            self.assertEqual((facts.ways, facts.pairs), (tuple(sorted(facts.ways)), tuple(sorted(facts.pairs))))

    def test_six_labels_and_seven(self):
        six = tuple(((label,), END) for label in SIX)
        self.assertEqual(Facts(six).labels, SIX)
        # Labels count also if the facts that have them are covered by others.
        for ways, pairs in ((six + ((("g",), END),), ()), (six + (((), ("ask", "g")),), ()), (six, (("g", (), END),)),
                            ((((), END),) + six + ((("g",), END),), ())):
            with self.assertRaises(InvalidFact):
                Facts(ways, pairs)

    def test_wrong_arguments(self):
        way, pair = ((), END), ("a", (), END)
        for value in every_kind() + [way, (pair,), (way, None), ((way,),), [way], ((way, pair))]:
            if value != () and not (isinstance(value, tuple) and value and all(item == way for item in value)):
                with self.assertRaises(InvalidFact):
                    Facts(value)
        for value in every_kind() + [pair, (way,), (pair, None), [pair]]:
            if value != ():
                with self.assertRaises(InvalidFact):
                    Facts((), value)

    def test_of_done_ask_and_rest(self):
        self.assertEqual((Facts.done().ways, Facts.done().pairs), ((((), END),), ()))
        self.assertEqual((Facts.ask("a").ways, Facts.ask("a").pairs), ((((), ("ask", "a")), (("a",), END)), (("a", (), END),)))
        for index in (0, 7, 10 ** 60 - 1):
            self.assertEqual((Facts.rest(index).ways, Facts.rest(index).pairs), ((((), ("rest", index)),), ()))
        for label in [value for value in every_kind() if value not in ("get", "or")]:
            with self.assertRaises(InvalidWord):
                Facts.ask(label)
        for index in (-1, True, False, None, "1", 10 ** 60, (1,), [], {}, ""):
            with self.assertRaises(InvalidNumber) as caught:
                Facts.rest(index)
            self.assertIs(caught.exception.number, index)

    def test_membership(self):
        facts = Facts((((), ("rest", 1)), (("a",), END)), (("b", (("a", "on"),), END),))
        for fact in facts:
            self.assertIs(fact in facts, True)
        for value in every_kind() + [((), ("rest", True)), (("a", "b"), END), ("b", (("a", "back"),), END), [("a",), END]]:
            self.assertIs(value in facts, False)

    def test_equality(self):
        self.assertEqual(Facts.ask("a"), Facts((((), ("ask", "a")), (("a",), END)), (("a", (), END),)))
        self.assertNotEqual(Facts.ask("a"), Facts.ask("b"))
        self.assertNotEqual(Facts.ask("a"), Facts(Facts.ask("a").ways))
        for value in every_kind() + [((((), END),), ())]:
            if not isinstance(value, Facts):
                self.assertIs(Facts.done() == value, False)
                self.assertIs(Facts.done() != value, True)


class Asked(unittest.TestCase):
    FACTS = Facts.ask("a") + Facts.ask("b") + Facts.ask("a")

    def test_covers(self):
        facts = Facts.ask("a") + Facts.ask("b")
        for fact, told in ((((), ("ask", "a")), True), (((), ("ask", "b")), False), ((("a",), ("ask", "b")), True),
                           ((("a", "b", "c"), END), True), (("b", (("a", "on"),), END), True), (("b", (), END), False),
                           (("a", (("a", "back"), ("b", "back")), END), True)):
            self.assertIs(facts.covers(fact), told, fact)

    def test_to(self):
        self.assertEqual(self.FACTS.to(END).ways, ((("a", "b"), END),))
        self.assertEqual({fact[-1] for fact in self.FACTS.to(("ask", "a"))}, {("ask", "a")})
        self.assertEqual(sum(len(self.FACTS.to(outcome)) for outcome in self.FACTS.outcomes), len(self.FACTS))
        self.assertEqual(self.FACTS.to(("rest", 3)), Facts())

    def test_within(self):
        self.assertIs(Facts().is_within(Facts()), True)
        self.assertIs(Facts((((("a", "b")), END),)).is_within(Facts(((("b",), END),))), True)
        self.assertIs(Facts(((("b",), END),)).is_within(Facts(((("a", "b"), END),))), False)
        self.assertIs(Facts.done().is_within(Facts.ask("a")), False)
        self.assertIs(Facts.ask("a").is_within(Facts.ask("a") | Facts.rest(4)), True)
        for value in every_kind():
            if not isinstance(value, Facts):
                self.assertIs(Facts().is_within(value), False)

    def test_reached(self):
        self.assertEqual(self.FACTS.reached(()), (("ask", "a"),))
        self.assertEqual(self.FACTS.reached(("a",)), (("ask", "a"), ("ask", "b")))
        self.assertEqual(self.FACTS.reached(("b",)), (("ask", "a"),))
        self.assertEqual(self.FACTS.reached(("a", "b", "z")), (("ask", "a"), ("ask", "b"), END))
        self.assertEqual(Facts((((), ("rest", 12)), ((), ("rest", 3)))).reached(()), (("rest", 3), ("rest", 12)))

    def test_paired(self):
        facts = Facts((), (("a", (("b", "on"),), END), ("a", (("b", "back"), ("c", "on")), ("ask", "b")), ("a", (("a", "back"),), ("rest", 2)),
                           ("b", (), END)))
        self.assertEqual(facts.paired("a", ("b",), ()), (END,))
        self.assertEqual(facts.paired("a", (), ("b",)), ())
        self.assertEqual(facts.paired("a", ("c",), ("b",)), (("ask", "b"),))
        self.assertEqual(facts.paired("a", ("b", "c"), ("a", "b")), (("ask", "b"), END, ("rest", 2)))
        self.assertEqual((facts.paired("b", (), ()), facts.paired("c", (), ())), ((END,), ()))

    def test_against_a_plain_reading(self):
        chance = random.Random(6)
        labels = ("a", "b", "c")
        for _ in range(60):
            some = plain_facts.chosen(chance, labels, OUTCOMES, 10)
            others = plain_facts.chosen(chance, labels, OUTCOMES, 40)
            facts, wider = Facts(*plain_facts.split(some)), Facts(*plain_facts.split(others))
            for fact in plain_facts.chosen(chance, labels, OUTCOMES, 40):
                self.assertIs(facts.covers(fact), plain_facts.covered(some, fact))
            self.assertIs(facts.is_within(wider), all(plain_facts.covered(others, fact) for fact in some))
            for given in plain_facts.subsets(labels):
                self.assertEqual(facts.reached(given), tuple(sorted({way[1] for way in facts.ways if set(way[0]) <= set(given)})))
                for back in plain_facts.subsets(labels):
                    want = {pair[2] for pair in facts.pairs if pair[0] == "b" and all(
                        label in (given if level == "on" else back) for label, level in pair[1])}
                    self.assertEqual(facts.paired("b", given, back), tuple(sorted(want)))

    def test_wrong_arguments(self):
        facts = self.FACTS
        labels = [value for value in every_kind() if value not in ((), ("get",), ("get", "put"))] + [("b", "a"), SEVEN]
        for value in every_kind():
            with self.assertRaises(InvalidFact):
                facts.covers(value)
            if not is_outcome(value):
                with self.assertRaises(InvalidFact):
                    facts.to(value)
        for value in labels:
            for make in (lambda: facts.reached(value), lambda: facts.paired("a", value, None), lambda: facts.paired("a", (), value)):
                with self.assertRaises(InvalidFact):
                    make()
        for value in [value for value in every_kind() if value not in ("get", "or")]:
            with self.assertRaises(InvalidWord):
                facts.paired(value, None, None)


class Operators(unittest.TestCase):
    def test_then(self):
        one = Facts((((), ("ask", "b")), (("a",), END)), (("a", (("b", "on"),), END), ("a", (), ("rest", 5))))
        two = Facts(((("c",), END), ((), ("rest", 9))), (("c", (("a", "back"),), END), ("a", (("c", "on"),), END)))
        made = one + two
        self.assertEqual(made.ways, (((), ("ask", "b")), (("a",), ("rest", 9)), (("a", "c"), END)))
        self.assertEqual(made.pairs, (
            ("a", (), ("rest", 5)), ("a", (("b", "on"),), ("rest", 9)), ("a", (("c", "on"),), END),
            ("c", (("a", "back"),), END)))

    def test_own_label_at_the_end_of_a_pair(self):
        self.assertEqual((Facts.ask("a") + Facts.ask("a")).pairs, (("a", (), ("ask", "a")), ("a", (), END)))
        first = Facts((), (("a", (), END),))
        self.assertEqual((first + Facts(((("a", "b"), END),))).pairs, (("a", (("a", "back"), ("b", "back")), END),))
        second = Facts((), (("a", (("b", "on"),), END),))
        self.assertEqual((Facts(((("a", "c"), END),)) + second).pairs, (("a", (("b", "on"), ("c", "on")), END),))
        second = Facts((), (("a", (("a", "back"),), END),))
        self.assertEqual((Facts(((("a", "c"), END),)) + second).pairs, (("a", (("a", "back"), ("c", "on")), END),))

    def test_done_changes_nothing_and_nothing_comes_behind_no_end(self):
        for facts in (Facts(), Facts.ask("a"), Facts.rest(3), Facts.ask("a") + Facts.ask("b") | Facts.rest(2)):
            self.assertEqual(Facts.done() + facts, facts)
            self.assertEqual(facts + Facts.done(), facts)
            self.assertEqual(facts | Facts(), facts)
            self.assertEqual(facts & facts, facts)
            self.assertEqual(Facts() + facts, Facts())
        self.assertEqual(Facts.rest(3) + Facts.ask("a"), Facts.rest(3))

    def test_facts_that_both_cover(self):
        self.assertEqual(Facts(((("a",), END),)) & Facts(((("b",), END),)), Facts(((("a", "b"), END),)))
        self.assertEqual(Facts((), (("a", (("b", "on"),), END),)) & Facts((), (("a", (("b", "back"),), END),)),
                         Facts((), (("a", (("b", "back"),), END),)))
        self.assertEqual(Facts.ask("a") & Facts.ask("b"), Facts(((("a", "b"), END),)))
        self.assertEqual(Facts.ask("a").to(("ask", "a")) & Facts.ask("b"), Facts())

    def test_against_a_plain_reading(self):
        chance = random.Random(8)
        for _ in range(150):
            labels = ("a", "b", "c")[:1 + chance.randrange(3)]
            outcomes = OUTCOMES[:chance.randrange(1, 5)]
            outcomes = tuple(outcome for outcome in outcomes if outcome[0] != "ask" or outcome[1] in labels)
            one, other = [plain_facts.chosen(chance, labels, outcomes, chance.randrange(9)) for _ in range(2)]
            mine, others = Facts(*plain_facts.split(one)), Facts(*plain_facts.split(other))
            self.assertEqual(set(mine + others), plain_facts.behind(set(mine), set(others)), (one, other))
            self.assertEqual(set(mine + others), plain_facts.behind(one, other))
            self.assertEqual(set(mine | others), plain_rules.least(one + other))
            self.assertEqual(set(mine & others), plain_facts.both(one, other, labels, outcomes))

    def test_six_labels_and_seven_in_the_result(self):
        one, two = Facts(((SIX[:4], END),)), Facts(((SIX[3:], END),))
        self.assertEqual([(one + two).labels, (one | two).labels, (one & two).labels], [SIX] * 3)
        more = Facts(((SEVEN[3:], END),))
        for make in (lambda: one + more, lambda: one | more, lambda: one & more, lambda: more + Facts(((("a", "b", "c"), END),)),
                     lambda: Facts.done() | one | Facts(((("d", "e", "f", "g"), ("rest", 1)),)) | Facts(((("a", "b", "c"), ("rest", 2)),))):
            with self.assertRaises(InvalidFact):
                make()
        # What is covered is not in the result, nor are its labels.
        self.assertEqual(Facts.done() | one | more, Facts.done())
        self.assertEqual(Facts(((SEVEN[1:], ("rest", 1)),)) + one, Facts(((SEVEN[1:], ("rest", 1)),)))
        self.assertEqual(Facts(((SEVEN[1:], ("rest", 1)),)) & one, Facts())

    def test_other_operands(self):
        for value in every_kind() + [((((), END),), ()), Facts]:
            if not isinstance(value, Facts):
                for make in (lambda: Facts.done() + value, lambda: Facts.done() | value, lambda: Facts.done() & value):
                    with self.assertRaises(InvalidOperation):
                        make()

    def test_operators_change_nothing(self):
        one, two = Facts.ask("a"), Facts.ask("b")
        before = (one.ways, one.pairs, two.ways, two.pairs)
        one + two, one | two, one & two, one.to(END), one.covers(((), END))
        self.assertEqual((one.ways, one.pairs, two.ways, two.pairs), before)
        three = one
        three |= two
        self.assertEqual((len(one), len(three)), (3, 6))


if __name__ == "__main__":
    unittest.main()
