"""Closed tables [8.1], [8.2]."""

import random
import unittest

from restwise.base.programs import Program
from restwise.errors import InvalidFact, InvalidOperation, InvalidProgram, InvalidTable, UnknownName, UnknownPlace
from restwise.need.families import END, Facts
from restwise.need.rules import facts_made, least_table
from restwise.need.tables import Table, denial, is_closed, is_denial
from tests import plain_rules
from tests.making import EXAMPLES, FLIP, INNER, LOG, OUTER, random_programs
from tests.test_rules import greater, possible_facts
from tests.values import every_kind

WAY = ((), END)
DONE = Facts.done()


def is_closed_plainly(program, table):
    backs = {rest for rest in program.rests if plain_rules.goes_back(program, table, rest)}
    return all(all(any(plain_rules.covers(fact, other) for other in table[place])
                   for fact in plain_rules.made(program, place, table, backs)) for place in table)


def all_of(program):
    """The greatest table: each node has each fact that it can have."""
    table = {}
    for place in plain_rules.all_places(program):
        ways, pairs = possible_facts(program, place)
        table[place] = Facts(tuple(ways), tuple(pairs))
    return table


class Closed(unittest.TestCase):
    def test_the_least_and_the_greatest_table(self):
        for program in list(EXAMPLES.values()) + random_programs(61, 25, 14, labels=("a", "b", "c")):
            self.assertIs(is_closed(program, least_table(program)), True)
            self.assertIs(is_closed(program, all_of(program)), True)

    def test_a_table_that_lacks_a_fact(self):
        for program in (LOG, INNER, OUTER, FLIP):
            table = least_table(program)
            for place, facts in table.items():
                for fact in facts:
                    ways = tuple(way for way in facts.ways if way != fact)
                    pairs = tuple(pair for pair in facts.pairs if pair != fact)
                    self.assertIs(is_closed(program, {**table, place: Facts(ways, pairs)}), False)

    def test_a_table_with_more_facts(self):
        table = least_table(INNER)
        self.assertIs(is_closed(INNER, {**table, ("loop", 0): DONE}), False)
        table = Table(INNER).assuming(("loop", 0), WAY).rows
        self.assertIs(is_closed(INNER, table), True)
        self.assertIs(is_closed(INNER, {**table, ("main", 0): least_table(INNER)[("main", 0)]}), False)
        # Nothing rests on the facts of the first node of a function that nothing calls.
        self.assertIs(is_closed(LOG, {**least_table(LOG), ("main", 0): DONE | Facts.ask("get")}), True)

    def test_tables_with_looser_facts(self):
        # A fact that covers more can stand in the place of one that is made.
        program = Program.from_lines("main: hold ask a")
        table, loose = least_table(program), Facts((WAY, ((), ("ask", "a"))), (("a", (), END),))
        self.assertIs(is_closed(program, {**table, ("main", 0): loose}), True)
        self.assertIs(is_closed(program, {**table, ("main", 1): loose}), False)
        self.assertIs(is_closed(program, {place: loose for place in table}), True)

    def test_no_tables(self):
        table = least_table(LOG)
        for value in every_kind() + [list(table.items()), least_table(FLIP), {**table, ("main", 12): DONE}, Table(LOG)]:
            self.assertIs(is_closed(LOG, value), False)
            if not isinstance(value, Program):
                with self.assertRaises(InvalidProgram):
                    is_closed(value, table)

    def test_against_a_plain_reading(self):
        chance = random.Random(3)
        told = {True: 0, False: 0}
        for program in random_programs(67, 120, 7, names=("f", "main"), doubling=0.5):
            table = greater(chance, program, 0.5)
            grown = {place: table[place] | least_table(program)[place] for place in table}
            for _ in range(3):
                self.assertIs(is_closed(program, grown), is_closed_plainly(program, grown))
                told[is_closed(program, grown)] += 1
                grown = {place: facts | facts_made(program, place, grown) for place, facts in grown.items()}
        self.assertGreater(min(told.values()), 40, told)


class Rows(unittest.TestCase):
    def test_the_least_one(self):
        for program in EXAMPLES.values():
            table = Table(program)
            self.assertEqual(table.rows, least_table(program))
            self.assertEqual(list(table.rows), plain_rules.all_places(program))
            self.assertEqual((table.program, table.is_least()), (program, True))
            self.assertEqual(Table(program, None), table)
            self.assertEqual(Table(program, least_table(program)), table)

    def test_a_greater_one(self):
        table = Table(INNER, all_of(INNER))
        self.assertEqual(table.rows, all_of(INNER))
        self.assertIs(table.is_least(), False)
        self.assertNotEqual(table, Table(INNER))

    def test_the_order_and_later_changes_have_no_effect(self):
        rows = all_of(INNER)
        backwards = {place: rows[place] for place in list(rows)[::-1]}
        table = Table(INNER, backwards)
        self.assertEqual(list(table.rows), list(rows))
        backwards[("main", 0)] = Facts()
        table.rows[("main", 0)] = Facts()
        del table.rows[("f", 0)]
        self.assertEqual(table.rows, rows)

    def test_no_closed_tables(self):
        table = least_table(LOG)
        for rows in [value for value in every_kind() if value is not None] + [
                {place: Facts() for place in table}, {**table, ("main", 0): Facts()}, least_table(FLIP), Table(LOG)]:
            with self.assertRaises(InvalidTable):
                Table(LOG, rows)
        for program in every_kind():
            if not isinstance(program, Program):
                for rows in (None, table, 7):
                    with self.assertRaises(InvalidProgram):
                        Table(program, rows)

    def test_facts_of_places_and_functions(self):
        table = Table(INNER)
        self.assertEqual(table[("in", 0)], Facts.ask("b"))
        self.assertEqual(table.of("f"), table[("f", 0)])
        for place in every_kind() + [("main", 6), ("g", 0), ["main", 0], ("main", True), ("main", -1)]:
            if place != ("main", 0):
                with self.assertRaises(UnknownPlace) as caught:
                    table[place]
                self.assertIs(caught.exception.spot, place)
        for name in every_kind() + ["g", ("main", 0)]:
            with self.assertRaises(UnknownName) as caught:
                table.of(name)
            self.assertIs(caught.exception.wanted, name)

    def test_covers(self):
        table = Table(INNER)
        for fact, told in ((WAY, False), ((("a", "b"), END), True), (((), ("ask", "a")), True), ((("b",), ("ask", "a")), True),
                           (("b", (("a", "on"),), END), True), (("b", (), END), False)):
            self.assertIs(table.covers(("f", 0), fact), told, fact)
        self.assertIs(table.covers(("in", 3), ((), ("rest", 4))), True)
        self.assertIs(table.covers(("in", 3), (("a",), ("rest", 4))), True)

    def test_facts_that_the_node_cannot_have(self):
        table = Table(INNER)
        facts = [("back",), (("c",), END), ((), ("ask", "c")), ((), ("rest", 4)), ((), ("rest", 0)), ("c", (), END),
                 ("a", (("a", "on"),), END), ("a", (("c", "on"),), END), ((), ("rest", 10 ** 59)), ((), ("rest", True)), (("b", "a"), END)]
        for fact in facts + every_kind():
            for call in (lambda: table.covers(("in", 0), fact), lambda: table.assuming(("in", 0), fact),
                         lambda: table.assuming(("in", 0), WAY, fact), lambda: denial(INNER, ("in", 0), fact),
                         lambda: is_denial(INNER, ("in", 0), fact, None)):
                with self.assertRaises(InvalidFact):
                    call()
        for place in (("in", 9), ("in", True), None, "in", ("in",), ["in", 0]):
            for call in (lambda: table.covers(place, None), lambda: table.assuming(place, None), lambda: table.assuming(place),
                         lambda: denial(INNER, place, None), lambda: is_denial(INNER, place, None, None)):
                with self.assertRaises(UnknownPlace) as caught:
                    call()
                self.assertIs(caught.exception.spot, place)

    def test_each_membership_and_texts(self):
        table = Table(FLIP)
        told = list(table.each())
        self.assertEqual(told, [(place, fact) for place in plain_rules.all_places(FLIP) for fact in table[place]])
        self.assertEqual(len(table), len(told))
        for pair in told:
            self.assertIs(pair in table, True)
        for value in every_kind() + [(("main", 0), ((), ("ask", "or"))), (("main", 6), ((), ("rest", 7))), (("coin", 0), WAY),
                                     (["main", 0], WAY), (("coin", False), ((), ("ask", "or"))), WAY]:
            self.assertIs(value in table, False)
        self.assertEqual(len(told), 15)
        self.assertEqual(str(table), "15 facts at 9 places")
        self.assertEqual(str(Table(Program.from_lines("f: call f", "main: then done call f"))), "1 facts at 1 places")
        self.assertEqual(str(Table(Program.from_lines("f: call f"))), "0 facts at 0 places")

    def test_equality(self):
        self.assertEqual(Table(LOG), Table(Program.from_lines(*LOG.lines)))
        self.assertNotEqual(Table(INNER), Table(OUTER))
        self.assertNotEqual(Table(LOG), least_table(LOG))


class Assumed(unittest.TestCase):
    def closures(self, program, changes):
        """The closed table around the least one and these facts, by using the rules again and again."""
        table = {place: facts | changes.get(place, Facts()) for place, facts in least_table(program).items()}
        while True:
            later = {place: facts | facts_made(program, place, table) for place, facts in table.items()}
            if later == table:
                return table
            table = later

    def test_nothing_and_what_is_covered(self):
        table = Table(INNER)
        self.assertEqual(table.assuming(("main", 0)), table)
        self.assertEqual(table.assuming(("f", 0), (("a", "b"), END), ((), ("ask", "a"))), table)

    def test_facts_that_make_others_elsewhere(self):
        table = Table(INNER).assuming(("loop", 0), WAY)
        self.assertEqual(table.rows, self.closures(INNER, {("loop", 0): DONE}))
        self.assertIs(table.covers(("main", 5), WAY), True)
        self.assertIs(table.covers(("main", 0), WAY), True)
        self.assertIs(table.is_least(), False)

    def test_several_facts_at_several_places(self):
        pair = ("a", (("b", "back"),), ("ask", "b"))
        table = Table(OUTER).assuming(("loop", 0), ((), ("ask", "b")), pair).assuming(("f", 2), WAY, (("a",), END))
        want = self.closures(OUTER, {("loop", 0): Facts((((), ("ask", "b")),), (pair,)), ("f", 2): DONE})
        self.assertEqual(table.rows, want)
        again = Table(OUTER).assuming(("f", 2), WAY).assuming(("loop", 0), pair, ((), ("ask", "b")))
        self.assertEqual(again, table)

    def test_it_changes_nothing(self):
        table = Table(INNER)
        table.assuming(("loop", 0), WAY)
        self.assertEqual(table.rows, least_table(INNER))

    def test_against_a_plain_reading(self):
        chance = random.Random(4)
        for program in random_programs(71, 50, 12, labels=("a", "b", "c"), names=("f", "loop", "main"), doubling=0.5):
            place = chance.choice(plain_rules.all_places(program))
            ways, pairs = possible_facts(program, place)
            facts = chance.sample(ways + pairs, min(3, len(ways + pairs)))
            told = Facts(tuple(fact for fact in facts if len(fact) == 2), tuple(fact for fact in facts if len(fact) == 3))
            table = Table(program).assuming(place, *facts)
            self.assertEqual(table.rows, self.closures(program, {place: told}))
            self.assertTrue(all(table.covers(place, fact) for fact in facts))
            other_place = chance.choice(plain_rules.all_places(program))
            other = Table(program).assuming(other_place, chance.choice(possible_facts(program, other_place)[0]))
            self.assertEqual(table.joined(other).rows, self.closures(program, {
                place: table[place] | other[place] for place in table.rows}))
            self.assertEqual(table.common(other).rows, {place: table[place] & other[place] for place in table.rows})
            for one in (table, other):
                self.assertTrue(one.is_within(table.joined(other)))
                self.assertTrue(table.common(other).is_within(one))
                self.assertTrue(Table(program).is_within(one))
            self.assertIs(table.is_within(other), all(table[where].is_within(other[where]) for where in table.rows))

    def test_joined_and_common(self):
        one, two = Table(INNER).assuming(("loop", 0), WAY), Table(INNER).assuming(("f", 0), ((), ("ask", "b")))
        self.assertEqual(one.joined(two), two.joined(one))
        self.assertEqual(one.common(two), two.common(one))
        self.assertEqual(one.common(Table(INNER)), Table(INNER))
        self.assertEqual(one.joined(Table(INNER)), one)
        self.assertEqual([one.is_within(one), one.is_within(two), Table(INNER).is_within(two)], [True, False, True])
        again = Table(Program.from_lines(*INNER.lines))
        self.assertEqual(one.joined(again), one)

    def test_other_operands(self):
        table = Table(INNER)
        for other in every_kind() + [Table(OUTER), least_table(INNER), INNER]:
            for call in (table.joined, table.common, table.is_within):
                if not isinstance(other, Table) or other.program != INNER:
                    with self.assertRaises(InvalidOperation):
                        call(other)


class Denied(unittest.TestCase):
    def test_facts_that_the_least_table_does_not_cover(self):
        for program in EXAMPLES.values():
            table = least_table(program)
            for place in table:
                ways, pairs = possible_facts(program, place)
                for fact in ways + pairs:
                    if table[place].covers(fact):
                        with self.assertRaises(InvalidOperation):
                            denial(program, place, fact)
                        self.assertIs(is_denial(program, place, fact, table), False)
                        self.assertIs(is_denial(program, place, fact, all_of(program)), False)
                    else:
                        told = denial(program, place, fact)
                        self.assertIs(is_denial(program, place, fact, told), True)
                        self.assertTrue(is_closed(program, told) and not told[place].covers(fact))

    def test_each_closed_table_that_does_not_cover_the_fact(self):
        least, more = Table(INNER), Table(INNER).assuming(("loop", 0), WAY)
        rows = more.rows
        for place, fact, value, told in (
            (("main", 0), WAY, least.rows, True), (("main", 0), WAY, rows, False), (("f", 0), WAY, rows, True),
            (("f", 0), WAY, {**rows, ("f", 0): rows[("f", 0)] | DONE}, False),
            (("main", 0), ((), ("ask", "a")), {**least.rows, ("main", 0): DONE}, True),
            (("loop", 0), WAY, {**least.rows, ("main", 0): Facts.ask("a")}, True),
            (("f", 1), WAY, {**least.rows, ("f", 0): Facts()}, False),
        ):
            self.assertIs(is_denial(INNER, place, fact, value), told, (place, fact))

    def test_other_values(self):
        for value in every_kind() + [Table(INNER), list(least_table(INNER).items()), least_table(OUTER)]:
            self.assertIs(is_denial(INNER, ("main", 0), WAY, value), False)

    def test_what_is_handed_out_is_a_dict_of_its_own(self):
        told = denial(INNER, ("main", 0), WAY)
        self.assertEqual(list(told), plain_rules.all_places(INNER))
        told[("main", 0)] = DONE
        self.assertEqual(denial(INNER, ("main", 0), WAY), least_table(INNER))

    def test_the_first_wrong_argument_decides(self):
        for call in (denial, lambda *more: is_denial(*more, None)):
            for arguments, kind in (((None, None, None), InvalidProgram), ((INNER, None, None), UnknownPlace),
                                    ((INNER, ("main", 0), None), InvalidFact)):
                with self.assertRaises(kind):
                    call(*arguments)


if __name__ == "__main__":
    unittest.main()
