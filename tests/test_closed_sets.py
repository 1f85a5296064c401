"""[10.1], [10.3], [0.20]: contexts, events, closed sets of standings, and papers that an event never happens."""

import random
import unittest

from restwise.around.standings import Standings, is_closed_set, is_context, is_event, is_never_paper, never_paper
from restwise.base.programs import Program
from restwise.errors import InvalidOperation
from restwise.need.families import END, Facts
from restwise.need.rules import least_table
from restwise.need.tables import Table, is_closed
from tests import plain_standings
from tests.making import EXAMPLES, FLIP, INNER, LOG, OUTER, random_programs
from tests.plain_standings import all_events
from tests.test_rules import possible_facts
from tests.values import every_kind

WAY = ((), END)


def tables_of(chance, program):
    """The least table, greater closed ones, one with all facts, and one that need not be closed."""
    least = Table(program)
    found = [least.rows]
    for _ in range(2):
        place = chance.choice(list(least.rows))
        facts = [fact for row in possible_facts(program, place) for fact in row]
        found.append(least.assuming(place, chance.choice(facts)).rows)
    found.append({place: Facts(*[tuple(row) for row in possible_facts(program, place)]) for place in least.rows})
    mixed = {place: facts for place, facts in found[chance.randrange(3)].items()}
    mixed[chance.choice(list(mixed))] = Facts()
    return found + [mixed]


def contexts_of(chance, program, many):
    """Random contexts with labels and handles of a program."""
    found = []
    for _ in range(many):
        triples = []
        for label in program.labels:
            handles = [handle for handle in program.handles if label in program.node(handle)[1:]]
            if handles and chance.random() < 0.6:
                triples.append((label, chance.choice(handles), chance.random() < 0.5))
        found.append(tuple(triples))
    return found


def ascending(come, ended):
    return tuple(sorted(come)), tuple(sorted(ended))


class Closed(unittest.TestCase):
    def test_least_sets_and_one_too_few_or_too_many(self):
        for seed in range(40):
            chance = random.Random(seed)
            program = random_programs(seed, 1, 6 + seed % 12, labels=("a", "b"), doubling=0.5)[0]
            table = least_table(program)
            for name in program:
                standings = Standings(program, name)
                come, ended = standings.come, standings.ended
                self.assertTrue(is_closed_set(program, name, table, (come, ended)))
                for index in range(len(come)):
                    self.assertFalse(is_closed_set(program, name, table, (come[:index] + come[index + 1:], ended)))
                for index in range(len(ended)):
                    self.assertFalse(is_closed_set(program, name, table, (come, ended[:index] + ended[index + 1:])))
                for context in contexts_of(chance, program, 3):
                    place = chance.choice(list(table))
                    more = set(come) | {(place, context)}
                    self.assertEqual(is_closed_set(program, name, table, ascending(more, ended)),
                                     plain_standings.is_closed(program, name, table, more, set(ended)))

    def test_greater_sets_by_all_kinds_of_tables(self):
        many = 0
        for seed in range(60):
            chance = random.Random(seed)
            program = random_programs(seed, 1, 5 + seed % 10, labels=("a", "b")[:1 + seed % 2], names=("f", "loop", "main"), doubling=0.5)[0]
            for table in tables_of(chance, program):
                name = chance.choice(list(program))
                extra = [(chance.choice(list(table)), context) for context in contexts_of(chance, program, 2)]
                rests = [(rest, context) for context in contexts_of(chance, program, 2) for rest in program.rests[:1]]
                come, ended = plain_standings.closed_around(program, name, table, extra, rests)
                self.assertTrue(is_closed_set(program, name, table, ascending(come, ended)))
                for _ in range(6):
                    less, later = set(come), set(ended)
                    for standing in chance.sample(sorted(come), chance.choice((0, 1, 1, 2))):
                        less.discard(standing)
                    if later and chance.random() < 0.4:
                        later.discard(chance.choice(sorted(later)))
                    right = plain_standings.is_closed(program, name, table, less, later)
                    self.assertEqual(is_closed_set(program, name, table, ascending(less, later)), right, (program.lines, name))
                    many += right
        self.assertGreater(many, 100)

    def test_sets_of_other_forms(self):
        table, standings = least_table(INNER), Standings(INNER, "main")
        come, ended = standings.come, standings.ended
        self.assertTrue(is_closed_set(INNER, "main", table, (come, ended)))
        wrong = [(), (come,), (come, ended, ()), [come, ended], (list(come), ended), (come, list(ended)), (come[::-1], ended), (come, ended[::-1]),
                 (come + come[-1:], ended), (come, ended + ended[-1:]), (come + (come[0],), ended), (dict.fromkeys(come), ended), (come, None),
                 ((come[0] + (1,),) + come[1:], ended), (((list(come[0][0]), ()),) + come[1:], ended), (((("f", 0), []),) + come[1:], ended),
                 (come, ((("f", 0), ()),) + ended), (come, ended + ((("main", 3), ()),)), (come + ((("z", 0), ()),), ended),
                 (come + ((("main", 99), ()),), ended), (come + ((("main", 5), (("z", ("main", 0), True),)),), ended), standings, None, 1, "come"]
        for value in wrong:
            self.assertFalse(is_closed_set(INNER, "main", table, value), value)
        odd = tuple([(place, tuple([(label, handle, int(given)) for label, handle, given in context])) for place, context in come])
        self.assertEqual(odd, come)
        self.assertFalse(is_closed_set(INNER, "main", table, (odd, ended)))
        self.assertFalse(is_closed_set(INNER, "in", table, (come, ended)))
        self.assertFalse(is_closed_set(INNER, "main", table, (Standings(INNER, "in").come, ())))
        for value in every_kind():
            self.assertFalse(is_closed_set(INNER, "main", table, value))
            self.assertFalse(is_closed_set(INNER, "main", table, (come, value)) and value != ended)

    def test_sets_of_other_programs(self):
        standings = Standings(OUTER, "main")
        self.assertFalse(is_closed_set(INNER, "main", least_table(INNER), (standings.come, standings.ended)))
        self.assertTrue(is_closed_set(Program.from_lines(*OUTER.lines), "main", least_table(OUTER), (standings.come, standings.ended)))

    def test_greater_tables_need_greater_sets(self):
        table = Table(OUTER).assuming(("loop", 0), WAY).rows
        least = Standings(OUTER, "main")
        self.assertTrue(is_closed_set(OUTER, "main", least_table(OUTER), (least.come, least.ended)))
        self.assertFalse(is_closed_set(OUTER, "main", table, (least.come, least.ended)))
        come, ended = plain_standings.least_set(OUTER, "main", table)
        self.assertTrue(is_closed_set(OUTER, "main", table, ascending(come, ended)))
        self.assertTrue(is_closed_set(OUTER, "main", least_table(OUTER), ascending(come, ended)))


class Words(unittest.TestCase):
    def test_contexts(self):
        a, b = ("a", ("in", 0), True), ("b", ("main", 0), False)
        for value in ((), (a,), (b,), (a, b)):
            self.assertTrue(is_context(INNER, value))
        for value in ((b, a), (a, a), (a, ("a", ("in", 0), False)), (("a", ("in", 0), False), a), [a], (list(a),), ("a", ("in", 0), True),
                      (("a", ("main", 0), True),), (("a", ("in", 1), True),), (("a", ("in", 0), 1),), (("a", ("in", 0), None),), (("a", ("in", False), True),),
                      (("z", ("in", 0), True),), (("a", ["in", 0], True),), ((1, ("in", 0), True),), (("a", ("in", 0)),), (a, b, a), (a, None)):
            self.assertFalse(is_context(INNER, value), value)
        for value in every_kind():
            self.assertEqual(is_context(INNER, value), value == () and isinstance(value, tuple), value)

    def test_events(self):
        every = all_events(INNER)
        self.assertEqual(len(every), len(set(every)))
        for event in every:
            self.assertTrue(is_event(INNER, event), event)
        for value in (("come",), ("come", ("f", 9)), ("come", ("f", 0), ("f", 0)), ("ask", ("f", 1)), ("ask", ("f", 1), ()), ("ask", ("f", 1), ("main", 0)),
                      ("ask", ("f", 0), ("in", 0)), ("stop", ("f", 0)), ("rest", ("in", 3)), ("rest", ("in", 4), 1), ("ended", ("f", 0)), ("behind", ("in", 0)),
                      ("again", ("main", 0)), ("drop", ("in", 0)), ("drop", ("in", 4)), ("step", ("in", 5)), ("last", ("in", 0)), ["come", ("f", 0)],
                      ("come", ["f", 0]), ("come", ("f", False)), (("come",), ("f", 0)), ("Come", ("f", 0)), ("come", "f"), (1, ("f", 0)), ("lost", ("f", 0))):
            self.assertFalse(is_event(INNER, value), value)
        for value in every_kind():
            self.assertFalse(is_event(INNER, value), value)

    def test_events_of_random_programs(self):
        for program in random_programs(3, 20, 12, labels=("a", "b", "c")):
            every = set(all_events(program))
            places = list(least_table(program))
            for word in ("come", "stop", "rest", "ended", "behind", "again", "drop", "ask", "step"):
                for place in places:
                    self.assertEqual(is_event(program, (word, place)), (word, place) in every)
                    for handle in program.handles:
                        self.assertEqual(is_event(program, (word, place, handle)), (word, place, handle) in every)


class Papers(unittest.TestCase):
    def test_an_event_has_a_paper_exactly_if_it_is_not_told(self):
        for seed in range(60):
            program = random_programs(seed, 1, 5 + seed % 14, labels=("a", "b"), doubling=0.5)[0]
            for name in program:
                told = Standings(program, name).events
                for event in all_events(program):
                    if event in told:
                        with self.assertRaises(InvalidOperation):
                            never_paper(program, name, event)
                        self.assertFalse(is_never_paper(program, name, event, (least_table(program), (Standings(program, name).come, Standings(program, name).ended))))
                    else:
                        self.assertTrue(is_never_paper(program, name, event, never_paper(program, name, event)))

    def test_papers_by_greater_tables(self):
        right = 0
        for seed in range(40):
            chance = random.Random(seed)
            program = random_programs(seed, 1, 5 + seed % 10, labels=("a", "b"), names=("f", "loop", "main"), doubling=0.5)[0]
            for table in tables_of(chance, program):
                name = chance.choice(list(program))
                extra = [(chance.choice(list(table)), context) for context in contexts_of(chance, program, 1)] if chance.random() < 0.5 else []
                come, ended = plain_standings.closed_around(program, name, table, extra, [])
                told = plain_standings.events(program, table, come, ended)
                for event in chance.sample(all_events(program) * 2, 10):
                    wanted = is_closed(program, table) and event not in told
                    self.assertEqual(is_never_paper(program, name, event, (table, ascending(come, ended))), wanted)
                    right += wanted
                    if wanted and ended:
                        less = set(ended) - {sorted(ended)[0]}
                        self.assertEqual(is_never_paper(program, name, event, (table, ascending(come, less))),
                                         plain_standings.is_closed(program, name, table, come, less))
        self.assertGreater(right, 100)

    def test_other_values(self):
        event = ("come", ("main", 5))
        table, (come, ended) = never_paper(OUTER, "main", event)
        self.assertTrue(is_never_paper(OUTER, "main", event, (table, (come, ended))))
        less = {place: facts for place, facts in table.items() if place != ("f", 0)}
        for value in ((table,), (table, come, ended), [table, (come, ended)], (table, [come, ended]), ((come, ended), table), (less, (come, ended)),
                      ({**table, ("f", 0): Facts()}, (come, ended)), (least_table(INNER), (come, ended)), (Table(OUTER), (come, ended)), None, table,
                      (table, (come[1:], ended)), (table, (ended, come)), (table, Standings(OUTER, "main")), (table, never_paper(OUTER, "in", event)[1])):
            self.assertFalse(is_never_paper(OUTER, "main", event, value))
        for value in every_kind():
            self.assertFalse(is_never_paper(OUTER, "main", event, value))
            self.assertFalse(is_never_paper(OUTER, "main", event, (table, value)))
            self.assertFalse(is_never_paper(OUTER, "main", event, (value, (come, ended))))

    def test_a_paper_does_not_share_its_table(self):
        table = never_paper(OUTER, "main", ("come", ("main", 5)))[0]
        table.clear()
        self.assertTrue(is_never_paper(OUTER, "main", ("come", ("main", 5)), never_paper(OUTER, "main", ("come", ("main", 5)))))
        for program in EXAMPLES.values():
            self.assertTrue(is_closed(program, least_table(program)))

    def test_again_by_a_greater_table(self):
        # The part behind the first rest never comes to the second one; by a greater table it could.
        program = Program.from_lines("loop: call loop", "main: handle a: ask a done then rest then call loop rest")
        event = ("again", program.rests[0])
        self.assertTrue(is_never_paper(program, "main", event, never_paper(program, "main", event)))
        table = Table(program).assuming(("loop", 0), WAY).rows
        come, ended = plain_standings.least_set(program, "main", table)
        self.assertTrue(is_closed_set(program, "main", table, ascending(come, ended)))
        self.assertFalse(is_never_paper(program, "main", event, (table, ascending(come, ended))))
        self.assertTrue(is_never_paper(FLIP, "main", ("drop", ("main", 5)), never_paper(FLIP, "main", ("drop", ("main", 5)))))
        self.assertTrue(is_never_paper(LOG, "main", ("stop", ("main", 2)), never_paper(LOG, "main", ("stop", ("main", 2)))))


if __name__ == "__main__":
    unittest.main()
