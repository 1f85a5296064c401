"""[14.1], [14.2], [0.22]: testers, functions that can stand for others, and papers of that."""

import random
import unittest

from restwise.around.held import held_events
from restwise.around.marks import Marks
from restwise.around.standings import Standings
from restwise.base.codes import Code, is_code
from restwise.base.programs import Program
from restwise.errors import InvalidFact, InvalidOperation, InvalidProgram, InvalidWord, UnknownName
from restwise.need.families import END, Facts
from restwise.need.lines import shown
from restwise.need.rules import least_table
from restwise.need.tables import Table, denial, is_closed
from restwise.use.modules import can_stand, exchanged, is_stand_paper, stand_paper, tester
from tests.making import INNER, Chance
from tests.plain_facts import all_facts
from tests.plain_rules import covers
from tests.values import every_kind

LABELS = ("a", "b", "c")
MANY = Program.from_lines("asks: then ask a ask b", "turned: then ask b ask a", "either: test call asks ask a", "loop: call loop",
                          "bare: handle c: call asks done rest", "one: ask a")


def plain_tester(name, fact, labels, loop):
    """A tester by the words of [14.2], as a text, and the words of its told node's text ahead of it."""
    looping = f"call {loop}"
    level = {label: "on" for label in fact[0]} if len(fact) == 2 else dict(fact[1])
    parts, told = [f"handle {' '.join(labels)}:", f"call {name}"], None
    if len(fact) == 3 and fact[2] != END:
        parts.append(looping)
    else:
        parts.append("done")
        told = 2 if fact == (fact[0], END) and len(fact) == 2 else None
    index = 3
    for label in labels:
        clause = {"back": "rest", "on": f"then rest {looping}"}.get(level.get(label), looping)
        own = len(fact) == 3 and fact[0] == label
        second = 0
        if own:
            clause = "then rest rest" if level.get(label) == "back" else f"then rest then rest {looping}"
            second = 2 if level.get(label) == "back" else 3
        if len(fact) == 3 and fact[2] == ("ask", label):
            clause, second = f"test {clause} done", second + 1
        if own:
            told = index + second
        if len(fact) == 2 and fact[1] == ("ask", label):
            told = index
        parts.append(clause)
        index += clause.count("then") + clause.count("rest") + clause.count("call") + clause.count("test") + clause.count("done")
    return " ".join(parts), told


def facts_of(labels):
    return all_facts(labels, [END] + [("ask", label) for label in labels])


def programs(many, size=14):
    for seed in range(many):
        yield seed, Chance(seed, labels=LABELS[:1 + seed % 3], names=("f", "g", "h", "loop")[:2 + seed % 3] + ("loop",) * (seed % 3 == 0), doubling=0.5).program(4 + seed % size)


class Testers(unittest.TestCase):
    def test_their_codes(self):
        for labels in (("a",), ("a", "b"), LABELS, ("back", "on", "to")):
            for fact in facts_of(labels):
                code, index = tester("f", fact, labels, loop="loop")
                text, told = plain_tester("f", fact, labels, "loop")
                self.assertEqual((code.text, index), (text, told))
                self.assertTrue(is_code(code.nodes) and code.loose == ())

    def test_codes_by_hand(self):
        for fact, labels, text, index in (
            ((("a",), END), ("a",), "handle a: call f done then rest call loop", 2),
            (((), ("ask", "a")), ("a", "b"), "handle a b: call f done call loop call loop", 3),
            ((("b",), ("ask", "b")), ("a", "b"), "handle a b: call f done call loop then rest call loop", 4),
            (("a", (), END), ("a",), "handle a: call f done then rest then rest call loop", 6),
            (("a", (("a", "back"),), END), ("a",), "handle a: call f done then rest rest", 5),
            (("b", (("a", "back"),), ("ask", "a")), ("a", "b"), "handle a b: call f call loop test rest done then rest then rest call loop", 9),
            (("a", (("b", "on"),), ("ask", "a")), ("a", "b"), "handle a b: call f call loop test then rest then rest call loop done then rest call loop", 7),
        ):
            self.assertEqual((lambda pair: (pair[0].text, pair[1]))(tester("f", fact, labels, loop="loop")), (text, index))

    def test_the_told_node_is_come_to_exactly_if_the_function_has_a_fact_that_covers_this_one(self):
        come = 0
        for seed, program in programs(100, 18):
            if not program.labels:
                continue
            chance, table = random.Random(seed), least_table(program)
            every = facts_of(program.labels)
            for name in program:
                for fact in chance.sample(every, min(len(every), 14)) + list(table[(name, 0)])[:4]:
                    code, index = tester(name, fact, program.labels, loop="loop")
                    whole = program.with_function("loop", Code.leaf("call", "loop")).with_function("tested", code)
                    is_come = ("come", ("tested", index)) in Standings(whole, "tested")
                    self.assertEqual(is_come, table[(name, 0)].covers(fact), (program.lines, name, fact))
                    come += is_come
        self.assertGreater(come, 300)

    def test_fewer_labels_than_the_program_has(self):
        table = least_table(INNER)
        code, index = tester("in", (("b",), END), ("b",), loop="loop")
        whole = INNER.with_function("tested", code)
        self.assertEqual(("come", ("tested", index)) in Standings(whole, "tested"), table[("in", 0)].covers((("b",), END)))

    def test_wrong_arguments(self):
        right = ("f", (("a",), END), ("a", "b"))
        for value in every_kind():
            if not isinstance(value, str) or not value.islower() or value in ("rest", "done", "handle") or len(value) > 8 or " " in value or not value.isalpha():
                with self.assertRaises(InvalidWord):
                    tester(value, None, None, loop=None)
                with self.assertRaises(InvalidWord):
                    tester(*right, loop=value)
            with self.assertRaises(InvalidFact):
                tester("f", value, None, loop=None)
            if value not in (("get",), ("get", "put")):
                with self.assertRaises(InvalidOperation):
                    tester("f", ((), END), value, loop=None)
        for fact in (((), ("rest", 3)), ("a", (), ("rest", 0)), (("a", "a"), END), ("a", (("a", "on"),), END)):
            with self.assertRaises(InvalidFact):
                tester("f", fact, ("a",), loop="loop")
        for labels in ((), ("b",), ("b", "a"), ("a", "a"), ["a"], ("a", "b", "c", "d"), ("a", "rest")):
            with self.assertRaises(InvalidOperation):
                tester("f", (("a",), END), labels, loop="loop")
        with self.assertRaises(InvalidOperation):
            tester("f", ("a", (("b", "on"),), END), ("a",), loop="loop")
        with self.assertRaises(InvalidOperation):
            tester("f", ((), ("ask", "b")), ("a",), loop="loop")


class StandingIn(unittest.TestCase):
    def plain(self, program, name, other):
        if set(program.free_labels((other, 0))) - set(program.free_labels((name, 0))):
            return False
        table = least_table(program)
        return all(any(covers(fact, known) for known in table[(name, 0)]) for fact in table[(other, 0)])

    def test_by_hand(self):
        table = {name: [other for other in MANY if can_stand(MANY, name, other)] for name in MANY}
        for name in MANY:
            self.assertIn(name, table[name])
            for other in MANY:
                self.assertEqual(other in table[name], self.plain(MANY, name, other), (name, other))
        self.assertIn("asks", table["bare"])
        self.assertIn("bare", table["asks"])
        self.assertIn("asks", table["either"])
        self.assertNotIn("either", table["asks"])
        self.assertIn("loop", table["one"])
        self.assertNotIn("turned", table["asks"])
        self.assertNotIn("asks", table["turned"])

    def test_functions_that_need_the_same_labels_to_end(self):
        # [0.24]: they need the same labels to end, and cannot stand for one another.
        facts = least_table(MANY)
        self.assertEqual(facts[("asks", 0)].to(END).ways, facts[("turned", 0)].to(END).ways)
        self.assertFalse(can_stand(MANY, "asks", "turned") or can_stand(MANY, "turned", "asks"))

    def test_free_labels_by_form(self):
        program = Program.from_lines("f: ask a", "g: test ask a then call loop ask b", "loop: call loop")
        self.assertTrue(least_table(program)[("g", 0)] == least_table(program)[("f", 0)])
        self.assertFalse(can_stand(program, "f", "g"))
        self.assertTrue(can_stand(program, "g", "f"))
        self.assertEqual(stand_paper(program, "f", "g"), ("free", "b"))

    def test_a_test_of_two_functions_and_a_handle_without_effect(self):
        for seed, program in programs(60):
            names = program.names
            if len(names) > 4:
                continue
            more = program.with_function("both", Code.leaf("call", names[0]) | Code.leaf("call", names[-1]))
            handle = Code.leaf("call", names[0]).handled(Code.leaf("done"), {label: Code.leaf("rest") for label in LABELS if label not in program.free_labels((names[0], 0))} or
                                                         {"a": Code.leaf("rest")})
            more = more.with_function("around", handle)
            self.assertTrue(can_stand(more, "both", names[0]) and can_stand(more, "both", names[-1]))
            if "a" not in program.free_labels((names[0], 0)) or len(program.free_labels((names[0], 0))) < 3:
                self.assertTrue(can_stand(more, "around", names[0]) and can_stand(more, names[0], "around"))

    def test_random_programs(self):
        many = {True: 0, False: 0}
        for _, program in programs(200):
            for name in program:
                for other in program:
                    told = can_stand(program, name, other)
                    self.assertEqual(told, self.plain(program, name, other))
                    many[told] += name != other
                # What can stand in a row can stand for the first one.
                for other in program:
                    for third in program:
                        if can_stand(program, name, other) and can_stand(program, other, third):
                            self.assertTrue(can_stand(program, name, third))
        self.assertTrue(min(many.values()) > 50, many)

    def test_what_stands_in_makes_nothing_new_in_third_functions(self):
        many = 0
        for seed in range(240):
            program = Chance(seed, labels=LABELS[:1 + seed % 3], names=("f", "g", "main", "up"), doubling=0.5, holds=2, calls=2).program(5 + seed % 10)
            for name, other in (("f", "g"), ("g", "f"), ("main", "f")):
                if not can_stand(program, name, other):
                    continue
                try:
                    made = exchanged(program, name, other)
                except InvalidProgram:
                    continue
                beneath = set(program.needed(name)) | set(program.needed(other))
                thirds = [third for third in program if third not in beneath]
                many += made != program
                self.check_nothing_new(program, made, thirds)
        self.assertGreater(many, 30)

    def check_nothing_new(self, program, made, thirds):
        for first in thirds:
            before, after = set(Standings(program, first).events), set(Standings(made, first).events)
            new = [event for event in after - before if event[1][0] in thirds and event[0] in ("come", "ended", "drop", "rest", "behind", "again")]
            self.assertEqual(new, [], (program.lines, made.lines))
            marks, others = Marks(program, first), Marks(made, first)
            for clause in marks:
                if clause[0] in thirds:
                    self.assertLessEqual(set(marks.right(clause)), set(others.right(clause)))
            held, later = held_events(program, first), held_events(made, first)
            for place in held:
                if place[0] in thirds:
                    self.assertLessEqual(set(later[place]), set(held[place]), (program.lines, made.lines, first, place))

    def test_what_cannot_stand_in_is_told_apart_by_one_handle(self):
        many = 0
        for _, program in programs(100):
            if not program.labels or len(program) > 4:
                continue
            whole = program.with_function("loop", Code.leaf("call", "loop"))
            for name in program:
                for other in program:
                    if not can_stand(program, name, other) and set(program.free_labels((other, 0))) <= set(program.free_labels((name, 0))):
                        fact = [fact for fact in least_table(program)[(other, 0)] if not least_table(program)[(name, 0)].covers(fact)][0]
                        told = []
                        for tested in (name, other):
                            code, index = tester(tested, fact, program.labels, loop="loop")
                            told.append(("come", ("tested", index)) in Standings(whole.with_function("tested", code), "tested"))
                        self.assertEqual(told, [False, True])
                        many += 1
        self.assertGreater(many, 60)


class Exchanged(unittest.TestCase):
    def test_only_calls_in_third_functions(self):
        program = Program.from_lines("f: then call h ask a", "g: then call f call g", "h: test done call f", "main: then call f then call g call main", "up: then call main hold call f")
        self.assertEqual(exchanged(program, "f", "g").lines, ("f: then call h ask a", "g: then call f call g", "h: test done call f",
                                                              "main: then call g then call g call main", "up: then call main hold call g"))
        self.assertEqual(exchanged(program, "g", "f").lines[3:], ("main: then call f then call f call main", "up: then call main hold call f"))
        self.assertEqual(exchanged(program, "f", "f"), program)
        self.assertEqual(exchanged(program, "main", "up"), program)
        self.assertEqual(exchanged(program, "main", "f").lines[4], "up: then call f hold call f")

    def test_results_that_are_none(self):
        program = Program.from_lines("f: done", "g: ask a", "main: handle b: ask b call f then rest then rest call f")
        self.assertEqual(exchanged(program, "g", "f"), program)
        with self.assertRaises(InvalidProgram):
            exchanged(program, "f", "g")

    def test_names_that_are_none(self):
        for value in every_kind():
            for call in (can_stand, stand_paper, exchanged, lambda *three: is_stand_paper(*three, None)):
                with self.assertRaises(UnknownName) as caught:
                    call(MANY, value, None)
                self.assertIs(caught.exception.wanted, value)
                with self.assertRaises(UnknownName) as caught:
                    call(MANY, "asks", value)
                self.assertIs(caught.exception.wanted, value)
                if not isinstance(value, Program):
                    with self.assertRaises(InvalidProgram):
                        call(value, "nope", "nope")


class Papers(unittest.TestCase):
    def test_each_pair_has_a_paper(self):
        words = {"stands": 0, "parts": 0, "free": 0}
        for _, program in programs(120):
            for name in program:
                for other in program:
                    paper = stand_paper(program, name, other)
                    words[paper[0]] += 1
                    self.assertTrue(is_stand_paper(program, name, other, paper))
                    self.assertEqual(paper[0] == "stands", can_stand(program, name, other))
        self.assertTrue(min(words.values()) > 30, words)

    def test_papers_of_other_pairs(self):
        papers = {(name, other): stand_paper(MANY, name, other) for name in MANY for other in MANY}
        program = MANY
        for (name, other), paper in papers.items():
            for one in program:
                for two in program:
                    if is_stand_paper(program, one, two, paper):
                        self.assertEqual(can_stand(program, one, two), can_stand(program, name, other))
                        self.assertEqual(paper[0] == "stands", can_stand(program, one, two))

    def test_spoilt_papers_that_stand(self):
        word, table, rows = stand_paper(MANY, "asks", "bare")
        self.assertEqual((word, len(rows)), ("stands", len(table[("bare", 0)])))
        self.assertTrue(is_stand_paper(MANY, "asks", "bare", (word, table, rows)))
        self.assertTrue(is_stand_paper(MANY, "asks", "bare", (word, table, tuple(shown(MANY, ("asks", 0), fact).lines for fact in table[("bare", 0)]))))
        less = {place: facts for place, facts in table.items() if place != ("bare", 0)}
        for value in ((word, table), (word, table, rows[1:]), (word, table, rows + rows[:1]), (word, table, rows[::-1]), (word, table, list(rows)), (word, rows, table),
                      (word, less, rows), (word, {**table, ("bare", 0): Facts()}, ()), (word, Table(MANY), rows), (word, table, rows[:-1] + ((),)), (word, table, rows[:-1] + (None,)),
                      ("parts", table, rows), (word, table, rows, ()), [word, table, rows], (word, table, (rows[0],) * len(rows)), ("Stands", table, rows), ((word,), table, rows)):
            self.assertFalse(is_stand_paper(MANY, "asks", "bare", value))
        more = Table(MANY).assuming(("loop", 0), ((), END)).rows
        self.assertTrue(is_stand_paper(MANY, "asks", "bare", (word, more, rows)) == (list(more[("bare", 0)]) == list(table[("bare", 0)])))
        # A greater table may tell of the function what is not shown.
        grown = Table(MANY).assuming(("bare", 0), ((), END)).rows
        self.assertFalse(is_stand_paper(MANY, "asks", "bare", (word, grown, rows)))

    def test_a_greater_table_with_lines_that_show_all_of_it(self):
        table = Table(MANY).assuming(("loop", 0), ((), ("ask", "a"))).rows
        rows = tuple(shown(MANY, ("one", 0), fact).lines for fact in table[("loop", 0)])
        self.assertEqual(len(rows), 1)
        self.assertTrue(is_stand_paper(MANY, "one", "loop", ("stands", table, rows)))
        self.assertFalse(is_stand_paper(MANY, "one", "loop", ("stands", least_table(MANY), rows)))
        self.assertTrue(is_stand_paper(MANY, "one", "loop", ("stands", least_table(MANY), ())))

    def test_spoilt_papers_that_part(self):
        word, fact, lines, table = stand_paper(MANY, "asks", "turned")
        self.assertEqual(word, "parts")
        self.assertTrue(is_stand_paper(MANY, "asks", "turned", (word, fact, lines, table)))
        known = list(least_table(MANY)[("asks", 0)])[0]
        others = [(word, fact, lines), (word, fact, lines, table, ()), (word, lines, fact, table), (word, fact, lines, Table(MANY)), (word, fact, lines[:-1], table), (word, fact, (), table),
                  (word, known, shown(MANY, ("asks", 0), known).lines, table), (word, fact, shown(MANY, ("asks", 0), known).lines, table), (word, ((), ("rest", 0)), lines, table),
                  (word, ((), ("ask", "z")), lines, table), (word, list(fact), lines, table), [word, fact, lines, table], ("stands", fact, lines, table),
                  (word, fact, lines, {**table, ("asks", 0): Facts((((), ("ask", "b")),))}), (word, fact, lines, {})]
        for value in others:
            self.assertFalse(is_stand_paper(MANY, "asks", "turned", value), value)
        # Lines that show a fact by which this one is covered, and a fact that some table can have, are right, too.
        wider = (("a", "c"), ("ask", "a")) if fact == (("b",), ("ask", "a")) else None
        self.assertEqual(fact, ((), ("ask", "b")) if wider is None else (("b",), ("ask", "a")))
        covered = (("c",), fact[1])
        self.assertTrue(is_stand_paper(MANY, "asks", "turned", (word, covered, lines, table)))
        self.assertTrue(is_closed(MANY, denial(MANY, ("asks", 0), covered)))

    def test_labels_as_papers(self):
        program = Program.from_lines("f: ask a", "g: then ask b ask c", "h: done")
        for label, right in (("b", True), ("c", True), ("a", False), ("d", False), (None, False), (("b",), False)):
            self.assertEqual(is_stand_paper(program, "f", "g", ("free", label)), right)
        for value in (("free",), ("free", "b", "c"), ["free", "b"], ("Free", "b"), "free", ("free", "b", ())):
            self.assertFalse(is_stand_paper(program, "f", "g", value))
        fact = ((), ("ask", "b"))
        self.assertTrue(is_stand_paper(program, "f", "g", ("parts", fact, shown(program, ("g", 0), fact).lines, least_table(program))))

    def test_other_values(self):
        for value in every_kind():
            for pair in (("asks", "bare"), ("asks", "turned"), ("asks", "one")):
                self.assertFalse(is_stand_paper(MANY, *pair, value))
                for word in ("stands", "parts", "free"):
                    self.assertFalse(is_stand_paper(MANY, *pair, (word, value)))
                    self.assertFalse(is_stand_paper(MANY, *pair, (word, value, value)))
                    self.assertFalse(is_stand_paper(MANY, *pair, (word, value, value, value)))


if __name__ == "__main__":
    unittest.main()
