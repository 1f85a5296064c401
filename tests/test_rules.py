"""Tables [7.1], what follows a rest [7.2], and the rules [7.3]."""

import random
import unittest

from restwise.base.codes import Code
from restwise.base.programs import Program
from restwise.need.families import END, Facts
from restwise.need.lines import round_of, shown
from restwise.need.rules import (facts_made, following, goes_again, goes_back, has_more, is_table,
                                 least_table)
from tests import plain_rules
from tests.making import EXAMPLES, FLIP, INNER, LOG, OUTER, Chance, random_programs
from tests.values import every_kind

DONE, NONE = Facts.done(), Facts()
WAY = ((), END)


def to_rest(*indices):
    return Facts(tuple(((), ("rest", index)) for index in indices))


def table_of(program, changes):
    """The table without facts, but for these places."""
    table = {place: NONE for place in plain_rules.all_places(program)}
    table.update(changes)
    return table


def main_table(program, **facts):
    """The same for places of main: `at3` tells the facts of the node 3."""
    return table_of(program, {("main", int(name[2:])): told for name, told in facts.items()})


class Tables(unittest.TestCase):
    PROGRAM = Program.from_lines("f: ask c", "main: handle a b: then ask a ask b done then rest then rest step s test step q rest")

    def right(self, changes):
        self.assertIs(is_table(self.PROGRAM, table_of(self.PROGRAM, changes)), True, changes)

    def wrong(self, changes):
        self.assertIs(is_table(self.PROGRAM, table_of(self.PROGRAM, changes)), False, changes)

    def test_just_all_places(self):
        table = least_table(self.PROGRAM)
        self.assertIs(is_table(self.PROGRAM, table), True)
        self.right({})
        for place in table:
            self.assertIs(is_table(self.PROGRAM, {other: table[other] for other in table if other != place}), False)
        for place in (("main", 13), ("g", 0), ("main", -1), "main", None, 7, ("f", 1)):
            self.assertIs(is_table(self.PROGRAM, {**table, place: NONE}), False)
            self.assertIs(is_table(self.PROGRAM, {**{other: table[other] for other in table if other != ("f", 0)}, place: NONE}), False)

    def test_true_is_no_index(self):
        table = least_table(self.PROGRAM)
        changed = {(name, bool(index)) if index == 1 else (name, index): facts for (name, index), facts in table.items()}
        self.assertIs(is_table(self.PROGRAM, changed), False)

    def test_labels_of_the_program_only(self):
        for facts in (Facts.ask("c"), Facts(((("a", "b", "c"), END),)), Facts((), (("c", (("a", "back"),), ("ask", "b")),))):
            self.right({("main", 5): facts})
        for facts in (Facts.ask("d"), Facts(((("d",), END),)), Facts((((), ("ask", "d")),)), Facts((), (("d", (), END),)),
                      Facts((), (("a", (("d", "on"),), END),))):
            self.wrong({("main", 5): facts})

    def test_outcomes_of_rests(self):
        # main: 0 handle, 1 then, 2 ask, 3 ask, 4 done, 5 then, 6 rest, 7 then, 8 rest, 9 step, 10 test, 11 step, 12 rest
        right = {5: (6, 8), 6: (6,), 7: (8,), 8: (8,), 10: (12,), 12: (12,)}
        for index in range(13):
            for rest in range(15):
                facts = {("main", index): to_rest(rest)}
                (self.right if rest in right.get(index, ()) else self.wrong)(facts)
        self.wrong({("f", 0): to_rest(6)})
        self.wrong({("main", 5): to_rest(10 ** 59)})
        self.right({("main", 5): Facts((((), ("rest", 6)), (("a",), ("rest", 8))), (("b", (), ("rest", 8)),))})
        self.wrong({("main", 5): Facts((((), ("rest", 6)),), (("b", (), ("rest", 12)),))})

    def test_rests_of_clauses_within(self):
        program = Program.from_lines("main: handle a: done done then rest handle b: done done rest")
        for index, rest, told in ((3, 4, True), (3, 8, False), (5, 8, False), (8, 8, True), (5, 4, False), (0, 4, False)):
            self.assertIs(is_table(program, main_table(program, **{f"at{index}": to_rest(rest)})), told, (index, rest))

    def test_other_kinds(self):
        table = least_table(self.PROGRAM)
        for value in every_kind() + [list(table.items()), tuple(table), None]:
            self.assertIs(is_table(self.PROGRAM, value), False)
            if not isinstance(value, Facts):
                self.assertIs(is_table(self.PROGRAM, {**table, ("f", 0): value}), False)
        self.assertIs(is_table(self.PROGRAM, {**table, ("f", 0): ((((), END),), ())}), False)

    def test_the_order_has_no_effect(self):
        table = least_table(self.PROGRAM)
        backwards = {place: table[place] for place in list(table)[::-1]}
        self.assertIs(is_table(self.PROGRAM, backwards), True)
        self.assertEqual(facts_made(self.PROGRAM, ("main", 0), backwards), facts_made(self.PROGRAM, ("main", 0), table))


class Following(unittest.TestCase):
    NESTED = Program.from_lines("f: done", "main: handle a: done done then then then rest step p then step q test rest done call f")
    # 3 then, 4 then, 5 then, 6 rest, 7 step p, 8 then, 9 step q, 10 test, 11 rest, 12 done, 13 call f

    def test_from_the_inside_out(self):
        self.assertEqual(following(self.NESTED, ("main", 6)), (("main", 7), ("main", 8), ("main", 13)))
        self.assertEqual(following(self.NESTED, ("main", 11)), (("main", 13),))
        self.assertEqual(following(LOG, ("main", 11)), ())
        self.assertEqual(following(FLIP, ("main", 7)), ())

    def test_only_in_its_clause(self):
        program = Program.from_lines("main: handle a: done done then then step p handle b: done done then rest done step q")
        self.assertEqual(following(program, ("main", 10)), (("main", 11),))
        program = Program.from_lines("main: then handle a: ask a done rest step q")
        self.assertEqual(following(program, ("main", 4)), ())

    def test_more_than_done_and_then(self):
        for text, told in (("rest", False), ("then rest done", False), ("then rest then done done", False), ("then rest step s", True),
                           ("then rest then done then done hold done", True), ("then rest test done done", True),
                           ("then step s rest", False), ("then rest call main", True), ("then rest handle b: done done done", True)):
            program = Program.from_lines(f"main: handle a: done done {text}")
            self.assertIs(has_more(program, program.rests[0]), told, text)
        program = Program.from_lines("main: handle a: done done then then rest done step s")
        self.assertIs(has_more(program, ("main", 5)), True)

    def test_against_a_plain_reading(self):
        for program in random_programs(31, 80, 20, doubling=0.6):
            for rest in program.rests:
                parts = plain_rules.parts_behind(program, rest)
                self.assertEqual(following(program, rest), tuple(parts))
                nodes = [node for name, index in parts for node in program[name].part(index).nodes]
                self.assertIs(has_more(program, rest), any(node not in [("done",), ("then",)] for node in nodes))


class Going(unittest.TestCase):
    PROGRAM = Following.NESTED

    def told(self, rest, **facts):
        table = main_table(self.PROGRAM, **facts)
        return goes_back(self.PROGRAM, ("main", rest), table), goes_again(self.PROGRAM, ("main", rest), table)

    def test_nothing_follows(self):
        table = main_table(LOG)
        self.assertEqual((goes_back(LOG, ("main", 11), table), goes_again(LOG, ("main", 11), table)), (True, False))

    def test_through_all_parts_with_ways_to_the_end(self):
        self.assertEqual(self.told(6, at7=DONE, at8=DONE, at13=DONE), (True, False))
        for lacking in ("at7", "at8", "at13"):
            facts = {name: DONE for name in ("at7", "at8", "at13") if name != lacking}
            self.assertEqual(self.told(6, **facts), (False, False), lacking)

    def test_through_a_part_by_a_rest_that_goes_on_within_it(self):
        self.assertEqual(self.told(6, at7=DONE, at8=to_rest(11), at13=DONE), (True, True))
        self.assertEqual(self.told(6, at7=DONE, at8=to_rest(11)), (False, True))
        self.assertEqual(self.told(6, at8=to_rest(11), at13=DONE), (False, False))
        self.assertEqual(self.told(11, at13=DONE), (True, False))
        self.assertEqual(self.told(11), (False, False))

    def test_ways_that_ask_do_not_count(self):
        asking = Facts(((("a",), END),))
        self.assertEqual(self.told(6, at7=asking, at8=DONE, at13=DONE), (False, False))
        self.assertEqual(self.told(6, at7=DONE, at8=Facts(((("a",), ("rest", 11)),)), at13=DONE), (False, False))

    def test_rests_behind_rests_within_one_part(self):
        # 4 rest, 5 then, 6 then, 7 rest, 8 rest, 9 step
        program = Program.from_lines("main: handle a: done done then rest then then rest rest step s")
        def told(**facts):
            table = main_table(program, **facts)
            return goes_back(program, ("main", 4), table), goes_again(program, ("main", 4), table)
        self.assertEqual(told(at5=to_rest(7)), (False, True))
        self.assertEqual(told(at5=to_rest(7), at8=to_rest(8), at9=DONE), (True, True))
        self.assertEqual(told(at5=to_rest(7), at8=to_rest(8)), (False, True))
        self.assertEqual(told(at5=to_rest(7), at8=DONE, at9=DONE), (True, True))
        self.assertEqual(told(at5=to_rest(7), at9=DONE), (False, True))
        self.assertEqual(told(at5=to_rest(8), at9=DONE), (True, True))
        self.assertEqual(told(at8=to_rest(8), at9=DONE), (False, False))

    def test_by_the_least_tables(self):
        for program, rest, told in ((INNER, ("in", 4), (True, False)), (INNER, ("main", 4), (False, False)), (OUTER, ("in", 4), (False, False)),
                                    (OUTER, ("main", 4), (True, False)), (FLIP, ("main", 6), (True, True)), (FLIP, ("main", 7), (True, False))):
            table = least_table(program)
            self.assertEqual((goes_back(program, rest, table), goes_again(program, rest, table)), told)

    def test_against_a_plain_reading(self):
        told = {}
        for seed in range(500):
            chance = Chance(seed, calls=0)
            clause = Code(chance.code(9, (), True, True))
            program = Program({"main": Code.leaf("done").handled(Code.leaf("done"), {"a": clause})})
            table = {place: Facts(tuple(chance.random.sample(empty_ways(program, place), 1) * chance.random.randrange(2)))
                     for place in plain_rules.all_places(program)}
            for rest in program.rests:
                want = plain_rules.goes_back(program, table, rest), plain_rules.goes_again(program, table, rest)
                self.assertEqual((goes_back(program, rest, table), goes_again(program, rest, table)), want)
                told[want] = told.get(want, 0) + 1
        self.assertEqual(len(told), 4)
        self.assertGreater(min(told.values()), 30, told)


def empty_ways(program, place):
    """The ways without labels that a node can have, those to rests more often."""
    return [way for way in possible_facts(program, place)[0] if way[0] == () and way[1][0] != "ask"]


def possible_facts(program, place):
    """Some facts that a node can have."""
    name, index = place
    code = program[name]
    end = index + len(code.part(index))
    outcomes = [END] + [("ask", label) for label in program.labels]
    for rest in range(index, end):
        owner = code.owner(rest)
        if owner is not None and owner <= index:
            outcomes += [("rest", rest)] * 3
    ways = [((), outcome) for outcome in outcomes] + [((label,), outcome) for label in program.labels for outcome in outcomes]
    pairs = [(label, need, outcome) for label in program.labels for outcome in outcomes
             for need in [()] + [((other, level),) for other in program.labels for level in ("on", "back")]
             if need != ((label, "on"),)]
    return ways, pairs


def greater(chance, program, share):
    """A table with random facts, which need not be closed."""
    table = {}
    for place in plain_rules.all_places(program):
        ways, pairs = possible_facts(program, place)
        many = 3 if chance.random() < share else 0
        table[place] = Facts(tuple(chance.sample(ways, min(many, len(ways)))), tuple(chance.sample(pairs, min(many, len(pairs)))))
    return table


class Made(unittest.TestCase):
    def test_leaves(self):
        program = Program.from_lines("main: handle a: then done then step s ask a done rest")
        for table in (main_table(program), least_table(program), main_table(program, at2=Facts.ask("a"), at6=DONE, at7=NONE)):
            self.assertEqual(facts_made(program, ("main", 2), table), DONE)
            self.assertEqual(facts_made(program, ("main", 4), table), DONE)
            self.assertEqual(facts_made(program, ("main", 5), table), Facts.ask("a"))
            self.assertEqual(facts_made(program, ("main", 7), table), to_rest(7))

    def test_calls_and_holds_take_over(self):
        program = Program.from_lines("f: done", "main: then call f hold ask a")
        facts = Facts(((("a",), END),), (("a", (("a", "back"),), ("ask", "a")),))
        table = table_of(program, {("f", 0): facts, ("main", 3): facts | DONE})
        self.assertEqual(facts_made(program, ("main", 1), table), facts)
        self.assertEqual(facts_made(program, ("main", 2), table), facts | DONE)
        self.assertEqual(facts_made(program, ("main", 1), main_table(program)), NONE)

    def test_tests_and_thens(self):
        program = Program.from_lines("main: test then ask a ask b done")
        one, two = Facts.ask("a"), Facts.ask("b") | DONE
        table = main_table(program, at1=one, at4=two, at2=one, at3=two)
        self.assertEqual(facts_made(program, ("main", 0), table), one | two)
        self.assertEqual(facts_made(program, ("main", 1), table), one + two)
        self.assertEqual(facts_made(program, ("main", 1), main_table(program, at2=one)), one.to(("ask", "a")))

    def test_a_place_makes_of_its_own_facts_nothing(self):
        program = Program.from_lines("main: test done done")
        self.assertEqual(facts_made(program, ("main", 0), main_table(program, at0=DONE)), NONE)


class Handles(unittest.TestCase):
    """main: 0 handle a, 1 work, 2 last part, 4 clause, 5 its rest, 6 what follows the rest."""

    PROGRAM = Program.from_lines("f: then ask a then ask b ask c", "main: handle a: call f hold done then rest test done done")

    def made(self, work, last=NONE, clause=NONE, **more):
        return facts_made(self.PROGRAM, ("main", 0), main_table(self.PROGRAM, at1=work, at2=last, at4=clause, **more))

    def setUp(self):
        self.assertEqual(self.PROGRAM["main"].children(0), (1, 2, 4))
        self.assertEqual(following(self.PROGRAM, ("main", 5)), (("main", 6),))

    def ways(self, facts):
        self.assertEqual(facts.pairs, ())
        return set(facts.ways)

    def test_ended(self):
        back = {"at6": DONE}
        work = Facts(((("b",), END),))
        self.assertEqual(self.ways(self.made(work, Facts(((("c",), END),)))), {(("b", "c"), END)})
        self.assertEqual(self.made(work, NONE), NONE)
        asking = Facts(((("a", "b"), END),))
        clause = Facts(((("c",), ("rest", 5)),))
        self.assertEqual(self.ways(self.made(asking, DONE, clause, **back)), {(("b", "c"), END)})
        self.assertEqual(self.made(asking, DONE, clause), NONE)
        self.assertEqual(self.made(asking, DONE, DONE, **back), NONE)

    def test_dropped(self):
        work = Facts(((("b",), ("ask", "a")),))
        self.assertEqual(self.ways(self.made(work, NONE, Facts(((("c",), END),)))), {(("b", "c"), END)})
        self.assertEqual(self.made(work, DONE, NONE), NONE)
        asking = Facts(((("a",), ("ask", "a")),))
        clause = Facts(((("c",), ("rest", 5)), (("b",), END)))
        self.assertEqual(self.ways(self.made(asking, NONE, clause, at6=DONE)), {(("b", "c"), END)})
        self.assertEqual(self.made(asking, NONE, clause), NONE)

    def test_passed(self):
        work = Facts(((("b",), ("ask", "c")),))
        self.assertEqual(self.ways(self.made(work)), {(("b",), ("ask", "c"))})
        asking = Facts(((("a",), ("ask", "b")),))
        self.assertEqual(self.ways(self.made(asking, DONE, Facts(((("c",), ("rest", 5)),)))), {(("c",), ("ask", "b"))})
        self.assertEqual(self.made(asking, DONE, DONE), NONE)

    def test_asked(self):
        work = Facts(((("b",), ("ask", "a")),))
        clause = Facts(((("c",), ("ask", "b")), ((), ("rest", 5))))
        self.assertEqual(self.ways(self.made(work, NONE, clause)), {(("b", "c"), ("ask", "b"))})
        # A clause can ask the label of its own handle: it goes further out, and is not replaced.
        clause = Facts(((("a",), ("ask", "a")),))
        self.assertEqual(self.ways(self.made(work, NONE, clause)), {(("a", "b"), ("ask", "a"))})

    def test_last(self):
        work = Facts(((("a",), END),))
        last = Facts(((("c",), ("ask", "b")),))
        clause = Facts(((("b",), ("rest", 5)),))
        self.assertEqual(self.ways(self.made(work, last, clause)), {(("b", "c"), ("ask", "b"))})
        last = Facts(((("a",), ("ask", "a")),))
        self.assertEqual(self.ways(self.made(work, last, clause)), {(("a", "b"), ("ask", "a"))})

    def test_labels_of_clauses_and_of_last_parts_are_never_replaced(self):
        work, clause = Facts(((("a",), END),)), Facts(((("a",), ("rest", 5)),))
        self.assertEqual(self.ways(self.made(work, Facts(((("a",), END),)), clause, at6=DONE)), {(("a",), END)})

    def test_pairs_in_the_work(self):
        work = Facts((), (("b", (("a", "back"), ("c", "on")), END),))
        clause = Facts(((("c",), ("rest", 5)),))
        last = Facts(((("a",), END),))
        self.assertEqual(self.made(work, last, clause, at6=DONE).pairs, (("b", (("a", "back"), ("c", "back")), END),))
        self.assertEqual(self.made(work, last, clause), NONE)
        work = Facts((), (("b", (("a", "on"),), END),))
        self.assertEqual(self.made(work, DONE, clause, at6=DONE).pairs, (("b", (("c", "on"),), END),))
        self.assertEqual(self.made(work, Facts(((("c",), ("ask", "c")),)), clause).pairs, (("b", (("c", "back"),), ("ask", "c")),))

    def test_pairs_in_the_work_that_are_dropped_asked_and_passed(self):
        work = Facts((), (("b", (("a", "on"),), ("ask", "a")), ("c", (("a", "back"),), ("ask", "b"))))
        clause = Facts(((("c",), ("rest", 5)), (("b",), END), ((), ("ask", "c"))))
        self.assertEqual(self.made(work, NONE, clause).pairs, (
            ("b", (("c", "on"),), ("ask", "c")), ("c", (("c", "back"),), ("ask", "b"))))
        self.assertEqual(self.made(work, NONE, clause, at6=DONE).pairs, (
            ("b", (("b", "back"), ("c", "on")), END), ("b", (("c", "on"),), ("ask", "c")), ("c", (("c", "back"),), ("ask", "b"))))

    def test_the_own_label_is_left_out_unless_it_is_back(self):
        work = Facts((), (("b", (("a", "on"),), END),))
        clause = Facts(((("b",), ("rest", 5)),))
        self.assertEqual(self.made(work, DONE, clause, at6=DONE).pairs, (("b", (), END),))
        work = Facts((), (("b", (("a", "back"),), END),))
        self.assertEqual(self.made(work, DONE, clause, at6=DONE).pairs, (("b", (("b", "back"),), END),))
        work = Facts((), (("b", (), END),))
        self.assertEqual(self.made(work, Facts(((("b",), END),))).pairs, (("b", (("b", "back"),), END),))

    def test_pairs_in_a_clause(self):
        work = Facts((), (("a", (("b", "on"),), END),))
        clause = Facts((), (("c", (("b", "back"),), ("rest", 5)),))
        self.assertEqual(self.made(work, DONE, clause, at6=DONE).pairs, (("c", (("b", "back"),), END),))
        self.assertEqual(self.made(work, DONE, clause), NONE)
        self.assertEqual(self.made(work, Facts(((("c",), ("ask", "b")),)), clause).pairs,
                         (("c", (("b", "back"), ("c", "back")), ("ask", "b")),))
        # Pairs of the clause to the end or to an ask are not taken for this.
        other = Facts((), (("c", (), END), ("c", (), ("ask", "b"))))
        self.assertEqual(self.made(work, DONE, other, at6=DONE), NONE)

    def test_pairs_in_a_clause_of_a_label_that_is_back_itself(self):
        work = Facts((), (("a", (("a", "back"),), END),))
        clause = Facts(((("b",), ("rest", 5)),), (("c", (), ("rest", 5)),))
        self.assertEqual(self.made(work, DONE, clause, at6=DONE).pairs, (("c", (("b", "back"),), END),))
        clause = Facts((((), ("rest", 5)),), (("a", (("c", "on"),), ("rest", 5)),))
        self.assertEqual(self.made(work, DONE, clause, at6=DONE).pairs, (("a", (("c", "on"),), END),))

    def test_pairs_in_a_clause_that_are_dropped_asked_and_passed(self):
        work = Facts((), (("a", (), ("ask", "a")), ("a", (("c", "on"),), ("ask", "b"))))
        clause = Facts(((("b",), END), ((), ("ask", "c"))), (("c", (), ("rest", 5)),))
        self.assertEqual(self.made(work, NONE, clause, at6=DONE).pairs, (
            ("c", (), ("ask", "b")), ("c", (), ("ask", "c")), ("c", (("b", "back"),), END)))

    def test_pairs_at_the_end(self):
        work = Facts(((("a", "b"), END),))
        clause = Facts(((("c",), ("rest", 5)),))
        last = Facts((), (("c", (("a", "back"),), END), ("a", (), ("ask", "b"))))
        self.assertEqual(self.made(work, last, clause, at6=DONE).pairs, (
            ("a", (("b", "on"), ("c", "on")), ("ask", "b")), ("c", (("a", "back"), ("b", "on")), END)))
        self.assertEqual(self.made(work, last, clause).pairs, (("a", (("b", "on"), ("c", "on")), ("ask", "b")),))

    def test_pairs_at_the_end_of_what_is_dropped_and_asked(self):
        work = Facts(((("b",), ("ask", "a")),))
        clause = Facts((), (("b", (), END), ("c", (("c", "back"),), ("ask", "a")), ("c", (), ("rest", 5))))
        self.assertEqual(self.made(work, DONE, clause).pairs, (
            ("b", (), END), ("c", (("b", "on"), ("c", "back")), ("ask", "a"))))
        work = Facts(((("b",), ("ask", "c")),))
        self.assertEqual(self.made(work, DONE, clause), Facts(((("b",), ("ask", "c")),)))

    def test_a_pair_and_a_pair_make_nothing(self):
        work = Facts((), (("b", (), END),))
        self.assertEqual(self.made(work, Facts((), (("c", (), END),))), NONE)


class SeveralLabels(unittest.TestCase):
    # 0 handle, 1 call, 2 done, 3 rest of a, 4 then of b, 5 rest, 6 step, 7 then of c, 8 test, 9 rest, 10 rest, 11 call f
    PROGRAM = Program.from_lines("f: done", "main: handle a b c: call f done rest then rest step s then test rest rest call f")

    def made(self, work, **more):
        return facts_made(self.PROGRAM, ("main", 0), main_table(self.PROGRAM, at1=work, at2=DONE, **more))

    def test_each_label_is_replaced_by_a_way_of_its_own_clause(self):
        work = Facts(((("a", "b", "c"), END),))
        clauses = {"at3": Facts(((("b",), ("rest", 3)),)), "at4": Facts(((("c",), ("rest", 5)),)), "at7": Facts(((("c",), ("rest", 9)),))}
        self.assertEqual(self.made(work, **clauses, at6=DONE, at11=DONE).ways, ((("b", "c"), END),))
        self.assertEqual(self.made(work, **clauses, at6=DONE), NONE)
        self.assertEqual(self.made(work, **clauses, at11=DONE), NONE)
        self.assertEqual(self.made(work, at4=clauses["at4"], at7=clauses["at7"], at6=DONE, at11=DONE), NONE)

    def test_any_of_several_rests(self):
        work = Facts(((("c",), END),))
        clause = Facts(((("a",), ("rest", 9)), (("b",), ("rest", 10))))
        self.assertEqual(self.made(work, at7=clause, at11=DONE).ways, ((("a",), END), (("b",), END)))

    def test_levels_of_replaced_labels(self):
        work = Facts((), (("c", (("a", "on"), ("b", "back")), END),))
        clauses = {"at3": Facts(((("b",), ("rest", 3)),)), "at4": Facts(((("a",), ("rest", 5)),)),
                   "at7": Facts((), (("c", (("c", "back"),), ("rest", 10)),))}
        made = self.made(work, **clauses, at6=DONE, at11=DONE)
        self.assertEqual(made.pairs, (("c", (("a", "back"), ("b", "on"), ("c", "back")), END),))
        self.assertEqual(made.ways, ())


class Compared(unittest.TestCase):
    def test_made_of_any_tables_against_a_plain_reading(self):
        chance = random.Random(1)
        made = 0
        for program in random_programs(41, 70, 12, labels=("a", "b", "c"), doubling=0.4):
            for share in (0.3, 0.9):
                table = greater(chance, program, share)
                backs = {rest for rest in program.rests if plain_rules.goes_back(program, table, rest)}
                for place in plain_rules.all_places(program):
                    want = plain_rules.least(plain_rules.made(program, place, table, backs))
                    facts = facts_made(program, place, table)
                    self.assertEqual(set(facts), want, (program.lines, place))
                    made += len(facts) if program.node(place)[0] == "handle" else 0
        self.assertGreater(made, 400)

    def test_a_greater_table_makes_more(self):
        chance = random.Random(2)
        for program in random_programs(43, 25, 12, doubling=0.4):
            table, other = greater(chance, program, 0.6), greater(chance, program, 0.6)
            wider = {place: table[place] | other[place] for place in table}
            for place in table:
                self.assertTrue(facts_made(program, place, table).is_within(facts_made(program, place, wider)))

    def test_nothing_changes_the_table(self):
        table = least_table(OUTER)
        before = {place: (facts.ways, facts.pairs) for place, facts in table.items()}
        for place in table:
            facts_made(OUTER, place, table)
        goes_back(OUTER, ("in", 4), table)
        self.assertEqual({place: (facts.ways, facts.pairs) for place, facts in table.items()}, before)
        told = least_table(OUTER)
        told[("main", 0)] = NONE
        del told[("main", 1)]
        self.assertEqual(least_table(OUTER), table)
        self.assertIsNot(least_table(OUTER), table)


class Least(unittest.TestCase):
    def test_places_ascend(self):
        for program in EXAMPLES.values():
            self.assertEqual(list(least_table(program)), plain_rules.all_places(program))

    def test_it_makes_itself(self):
        for program in list(EXAMPLES.values()) + random_programs(51, 30, 16, labels=("a", "b", "c")):
            table = least_table(program)
            for place in table:
                self.assertEqual(facts_made(program, place, table), table[place])

    def test_against_a_plain_reading(self):
        for seed in range(70):
            names = ("f", "g", "loop", "main")[seed % 2:2 + seed % 3]
            program = random_programs(seed, 1, 4 + seed % 14, labels=("a", "b", "c")[:1 + seed % 3], names=names, doubling=0.4)[0]
            table, _ = plain_rules.rounds(program)
            told = least_table(program)
            for place in told:
                self.assertEqual(set(told[place]), plain_rules.least(table[place]), (program.lines, place))

    def test_a_rest_that_goes_on_back_late_by_another_one(self):
        for clause in ("then rest then rest hold hold hold done", "then rest then rest then rest hold hold hold done",
                       "then rest test call main then rest hold hold hold done"):
            program = Program.from_lines(f"main: handle a: ask a done {clause}")
            rounds, backs = plain_rules.rounds(program)
            self.assertEqual(set(backs), set(program.rests))
            self.assertEqual(least_table(program)[("main", 0)], DONE)
            self.assertEqual(round_of(program, ("main", 0), WAY), min(rounds[("main", 0)].values()))
            self.assertEqual(shown(program, ("main", 0), WAY).height, min(rounds[("main", 0)].values()))

    def test_code_that_never_ends(self):
        self.assertEqual(least_table(Program.from_lines("main: call main"))[("main", 0)], NONE)
        table = least_table(Program.from_lines("main: then ask a call main"))
        self.assertEqual(table[("main", 0)], Facts((((), ("ask", "a")),), (("a", (), ("ask", "a")),)))

    def test_an_end_through_a_ring(self):
        program = Program.from_lines("f: test call g ask a", "g: then call f ask b")
        table = least_table(program)
        self.assertEqual(table[("f", 0)].to(END).ways, ((("a",), END),))
        self.assertEqual(table[("g", 0)].to(END).ways, ((("a", "b"), END),))


if __name__ == "__main__":
    unittest.main()
