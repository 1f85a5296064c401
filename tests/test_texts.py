"""[16.1]: texts of programs, facts, tables and markings, and how they are read."""

import random
import unittest

from restwise.base.programs import Program
from restwise.errors import InvalidFact, InvalidMarking, InvalidProgram, InvalidTable, ParseError
from restwise.need.families import END, Facts
from restwise.need.rules import least_table
from restwise.need.tables import Table
from restwise.run.marked import MARKS, Marking
from restwise.text.texts import (read_fact, read_facts, read_marking, read_program, read_table, write_fact, write_facts, write_marking, write_program,
                                 write_table)
from tests.making import EXAMPLES, FLIP, INNER, LOG, Chance
from tests.plain_facts import all_facts, chosen, covered, split
from tests.values import every_kind

OUTCOMES = [END, ("ask", "a"), ("ask", "to"), ("rest", 0), ("rest", 10), ("rest", 10 ** 60 - 1)]
ODD = ("back", "end", "on", "pair", "to", "way")


def programs(many):
    for seed in range(many):
        yield Chance(seed, labels=("a", "b", "c")[:1 + seed % 3], names=("f", "g", "loop", "main")[seed % 3:], doubling=0.5).program(5 + seed % 20)


def plain_text(fact):
    """The text of a fact by the words of [16.1]."""
    words = ["way", *fact[0]] if len(fact) == 2 else ["pair", fact[0]]
    if len(fact) == 3 and fact[1]:
        words.append("with")
        for label, level in fact[1]:
            words += [label, level]
    return " ".join(words + ["to", *[str(item) for item in fact[-1]]])


def spoilt(chance, text):
    """Texts that differ from this one: a word too many, too few, exchanged, doubled, other blanks and newlines."""
    words = text.split(" ")
    at = chance.randrange(len(words))
    other = chance.randrange(len(words))
    exchanged = list(words)
    exchanged[at], exchanged[other] = exchanged[other], exchanged[at]
    found = [" ".join(words[:at] + words[at + 1:]), " ".join(words[:at] + words[at:at + 1] + words[at:]), " ".join(exchanged), " ".join(words[:at] + ["to"] + words[at:]),
             text + " ", " " + text, text + "\n", "\n" + text, text.replace(" ", "  ", 1), text.replace(" ", "\n", 1), text.upper(), text + " end", text[:-1], text[1:]]
    return [item for item in found if item != text]


class Written(unittest.TestCase):
    def test_facts(self):
        for fact in all_facts(("a", "b", "to"), OUTCOMES) + all_facts(ODD[:3], [END, ("ask", "with"), ("ask", "end"), ("rest", 4)]) + all_facts(("with",), [END, ("ask", "to")]):
            text = write_fact(fact)
            self.assertEqual(text, plain_text(fact))
            self.assertEqual(read_fact(text), fact)

    def test_words_of_texts_as_labels(self):
        for fact, text in (((("to",), END), "way to to end"), (((), ("ask", "to")), "way to ask to"), ((("end", "to"), ("ask", "end")), "way end to to ask end"),
                           (("with", (("with", "back"),), END), "pair with with with back to end"), (("to", (), END), "pair to to end"),
                           (("pair", (("on", "on"), ("to", "back")), ("ask", "way")), "pair pair with on on to back to ask way"),
                           ((("back", "end", "on", "pair", "to"), ("ask", "way")), "way back end on pair to to ask way")):
            self.assertEqual(write_fact(fact), text)
            self.assertEqual(read_fact(text), fact)

    def test_all_facts_have_different_texts(self):
        every = all_facts(("on", "to", "with"), [END, ("ask", "to"), ("ask", "on"), ("rest", 1)]) + all_facts(("back", "end"), [END, ("ask", "end")])
        self.assertEqual(len({write_fact(fact) for fact in every}), len(set(every)))

    def test_sets_of_facts(self):
        for seed in range(200):
            chance = random.Random(seed)
            facts = Facts(*split(chosen(chance, ("a", "on", "to")[:1 + seed % 3], OUTCOMES[:5], seed % 12)))
            text = write_facts(facts)
            self.assertEqual(text, "\n".join([plain_text(fact) for fact in facts]))
            self.assertEqual(read_facts(text), facts)
        self.assertEqual((write_facts(Facts()), read_facts("")), ("", Facts()))

    def test_tables_programs_and_markings(self):
        for number, program in enumerate(programs(60)):
            chance = random.Random(number)
            self.assertEqual(write_program(program), "\n".join(program.lines))
            self.assertEqual(read_program(write_program(program)), program)
            lines = list(program.lines)
            chance.shuffle(lines)
            self.assertEqual(read_program("\n".join(lines)), program)
            table = least_table(program)
            text = write_table(table)
            self.assertEqual(text.split("\n"), [f"{place[0]} {place[1]}: {plain_text(fact)}" for place, facts in table.items() for fact in facts])
            self.assertEqual(read_table(text), {place: facts for place, facts in table.items() if facts})
            self.assertEqual(list(read_table(text)), [place for place, facts in table.items() if facts])
            self.assertEqual(write_table({place: table[place] for place in reversed(table)}), text)
            marking = Marking(program, {clause: chance.choice(MARKS) for clause in program.clauses})
            text = write_marking(marking)
            self.assertEqual(text, "\n".join([f"{clause[0]} {clause[1]} {mark}" for clause, mark in marking.marks.items()]))
            self.assertEqual(read_marking(program, text), marking)

    def test_values_without_lines(self):
        plain = Program.from_lines("f: done")
        self.assertEqual((write_table({}), read_table(""), write_marking(Marking(plain, {})), read_marking(plain, "")), ("", {}, "", Marking(plain, {})))
        self.assertEqual(write_table({("f", 0): Facts(), ("zzz", 10 ** 9): Facts()}), "")

    def test_tables_of_whatever_program(self):
        rows = {("zz", 10 ** 59): Facts.ask("to"), ("a", 3): Facts.rest(7), ("a", 20): Facts.done(), ("b", 0): Facts()}
        text = write_table(rows)
        self.assertEqual(text, "a 3: way to rest 7\na 20: way to end\n" + "\n".join([f"zz {10 ** 59}: {row}" for row in ("way to ask to", "way to to end", "pair to to end")]))
        self.assertEqual(read_table(text), {place: facts for place, facts in rows.items() if facts})


class Read(unittest.TestCase):
    def fails(self, read, text, line):
        with self.assertRaises(ParseError, msg=text) as caught:
            read(text)
        self.assertEqual(caught.exception.line, line, text)

    def test_spoilt_facts(self):
        for seed, fact in enumerate(all_facts(("a", "on", "to"), OUTCOMES[:5])):
            for text in spoilt(random.Random(seed), write_fact(fact)):
                try:
                    read = read_fact(text)
                except ParseError as error:
                    self.assertIsNone(error.line)
                else:
                    self.assertEqual(plain_text(read), text)
                    self.assertNotEqual(read, fact)

    def test_texts_of_no_fact(self):
        for text in ("", " ", "way", "to end", "way to", "way to ask", "way to rest", "way to rest 04", "way to rest -1", "way to rest +1", "way to rest 1_0", "way to rest " + "1" * 61,
                     "way to rest a", "way to ask rest", "way to ask A", "way a a to end", "way b a to end", "way a rest to end", "pair to end", "pair a with to end", "pair a with b to end",
                     "pair a with b on", "pair a with b On to end", "pair a with b on b back to end", "pair a with c on b on to end", "pair a with a on to end", "pair a b on to end",
                     "pair rest to end", "Way to end", "way a to end to end to", "way to end end", "way to to", "way a b c d e f g to end", "pair a with b on c on d on e on f on g on to end"):
            self.fails(read_fact, text, None)
        self.assertEqual(read_fact("way to rest 0"), ((), ("rest", 0)))
        self.assertEqual(read_fact("way to rest " + "9" * 60), ((), ("rest", 10 ** 60 - 1)))
        for value in every_kind():
            self.fails(read_fact, value, None)

    def test_lines_of_facts(self):
        for text, line in (("way to ask get\nway to end\nway get to end", 2), ("way to end\nway to end", 1), ("pair a to end\nway to end", 1), ("way to ask a\n", 1), ("\nway to end", 0),
                           ("\n", 0), ("way to end\n\nway to rest 1", 1), ("way to rest 10\nway to rest 9", 1), ("way a to end\nway a b to end", 1),
                           ("pair a with b back to end\npair a with b on to end", 1), ("pair a to end\npair a with b on to end", 1), ("way to end\npair a to end\npair a with c on to end", 2),
                           ("way to ask a\nway to end\nway b c to ask a", 2), ("way to end\nfalse", 1), ("way a to end\nway b to end\nway to ask c", 2), ("way  to end", 0)):
            self.fails(read_facts, text, line)
        self.assertEqual(read_facts("way to rest 9\nway to rest 10\nway b to end"), Facts((((), ("rest", 9)), ((), ("rest", 10)), (("b",), END))))
        # Words come ahead of longer ones, as in Python's order of tuples.
        self.assertEqual(len(read_facts("way a to end\nway b to end\npair a to end\npair a with b on to ask b")), 4)

    def test_more_than_six_labels(self):
        text = "\n".join([f"way to ask {label}" for label in "abcdefg"])
        with self.assertRaises(InvalidFact):
            read_facts(text)
        self.fails(read_facts, text + "\nway to ask g", 7)
        with self.assertRaises(InvalidFact):
            read_table("\n".join([f"f 0: way to ask {label}" for label in "abcdefg"]))
        self.assertEqual(len(read_table("\n".join([f"f {index}: way to ask {label}" for index, label in enumerate("abcdefg")]))), 7)

    def test_all_orders_of_facts(self):
        for seed in range(150):
            chance = random.Random(seed)
            facts = list(Facts(*split(chosen(chance, ("a", "b"), OUTCOMES[:4], 6))))
            if len(facts) < 2:
                continue
            mixed = chance.sample(facts, len(facts)) + ([chance.choice(facts)] if chance.random() < 0.5 else [])
            text = "\n".join([write_fact(fact) for fact in mixed])
            keys = [(len(fact), fact) for fact in mixed]
            wrong = [index for index in range(1, len(mixed)) if keys[index] <= keys[index - 1] or mixed[index] in mixed[:index]]
            if wrong:
                self.fails(read_facts, text, wrong[0])
            else:
                self.assertEqual(read_facts(text), Facts(*split(facts)))

    def test_facts_that_others_cover(self):
        for seed in range(150):
            chance = random.Random(seed)
            facts = sorted(chosen(chance, ("a", "b"), OUTCOMES[:3], 5), key=lambda fact: (len(fact), fact))
            wrong = [index for index in range(len(facts)) if covered(facts[:index], facts[index]) or any(covered([facts[index]], other) for other in facts[:index])]
            text = "\n".join([write_fact(fact) for fact in facts])
            if wrong:
                self.fails(read_facts, text, wrong[0])
            else:
                self.assertEqual(list(read_facts(text)), facts)

    def test_lines_of_tables(self):
        for text, line in (("f 0: way to end\nf 0: way to end", 1), ("f 1: way to end\nf 0: way to end", 1), ("g 0: way to end\nf 9: way to end", 1), ("f 10: way to end\nf 9: way to end", 1),
                           ("f 0: pair a to end\nf 0: way to end", 1), ("f 0: way to end\nf 0: way a to end", 1), ("f 0:way to end", 0), ("f 0 : way to end", 0), ("f 0: way to end ", 0),
                           ("f: way to end", 0), ("f 00: way to end", 0), ("f -1: way to end", 0), ("f x: way to end", 0), ("rest 0: way to end", 0), ("F 0: way to end", 0),
                           ("f 0 0: way to end", 0), ("f  0: way to end", 0), ("f 0: ", 0), ("f 0:", 0), ("\n", 0), ("f 0: way to end\n", 1), (" f 0: way to end", 0), ("0 f: way to end", 0),
                           ("f 0: way to end\nf 1: nothing\nf 0: way to end", 1), ("f 0: f 0: way to end", 0), ("f " + "1" * 61 + ": way to end", 0)):
            self.fails(read_table, text, line)
        self.assertEqual(read_table("f 9: way to end\nf 10: way to end\ng 0: way a to end\ng 0: way b to end"),
                         {("f", 9): Facts.done(), ("f", 10): Facts.done(), ("g", 0): Facts(((("a",), END), (("b",), END)))})

    def test_lines_of_markings(self):
        right = write_marking(Marking.uniform(INNER, "move"))
        self.assertEqual(right, "in 3 move\nmain 3 move")
        for text, line in (("main 3 move\nin 3 move", 1), ("in 3 move\nin 3 move", 1), ("in 3 move\nmain 3 Move", 1), ("in 3", 0), ("in 3 move x", 0), ("in  3 move", 0), ("in 03 move", 0),
                           ("in 3 move\n", 1), ("\n", 0), ("in: 3 move", 0), ("in 3: move", 0), ("in x move", 0), ("move", 0), ("In 3 move", 0), ("in 3 move\nrest 3 move", 1), ("~in 3 move", 0)):
            self.fails(lambda item: read_marking(INNER, item), text, line)
        for text in ("", "in 3 move", "main 3 copy", "in 2 move\nmain 3 move", "in 3 move\nmain 3 move\nmain 4 move", "f 0 move\nin 3 move\nmain 3 move", "zz 3 move", "in 3 move\nmain 99999 copy"):
            with self.assertRaises(InvalidMarking):
                read_marking(INNER, text)

    def test_lines_of_programs(self):
        for text, line in (("f: done\n", 1), ("\nf: done", 0), ("\n", 0), ("f: done\n\ng: done", 1), ("f:done", 0), ("f : done", 0), ("f: done ", 0), ("F: done", 0), ("f: done\ng: then done", 1),
                           ("f: done\nf: done\ng", 2), ("rest: done", 0)):
            self.fails(read_program, text, line)
        for text in ("", "f: rest", "f: call g", "f: done\nf: done", "f: hold rest", "\n".join([f"{name}: done" for name in "abcdefg"])):
            with self.assertRaises(InvalidProgram):
                read_program(text)

    def test_spoilt_texts_are_no_texts_or_those_of_other_values(self):
        for number, program in enumerate(programs(30)):
            chance = random.Random(number)
            table, marking = Table(program).rows, Marking.uniform(program, "jump")
            for text, read, write in ((write_program(program), read_program, write_program), (write_table(table), read_table, write_table),
                                      (write_marking(marking), lambda item: read_marking(program, item), write_marking)):
                for other in spoilt(chance, text) if text else ():
                    try:
                        value = read(other)
                    except (ParseError, InvalidProgram, InvalidMarking, InvalidFact):
                        continue
                    self.assertEqual(sorted(write(value).split("\n")), sorted(other.split("\n")))
                    self.assertNotEqual(value, read(text))


class Wrong(unittest.TestCase):
    def test_values_of_other_kinds(self):
        plain = [value for value in every_kind()]
        for value in plain:
            if not isinstance(value, Program):
                with self.assertRaises(InvalidProgram):
                    write_program(value)
                with self.assertRaises(InvalidProgram):
                    read_marking(value, None)
            with self.assertRaises(InvalidFact):
                write_fact(value)
            if not isinstance(value, Facts):
                with self.assertRaises(InvalidFact):
                    write_facts(value)
            if value != {}:
                with self.assertRaises(InvalidTable):
                    write_table(value)
            if not isinstance(value, Marking):
                with self.assertRaises(InvalidMarking):
                    write_marking(value)
            if not isinstance(value, str):
                for read in (read_program, read_fact, read_facts, read_table, lambda text: read_marking(FLIP, text)):
                    with self.assertRaises(ParseError) as caught:
                        read(value)
                    self.assertIsNone(caught.exception.line)
            elif value != "":
                for read in (read_program, read_facts, read_table, lambda text: read_marking(FLIP, text)):
                    with self.assertRaises(ParseError) as caught:
                        read(value)
                    self.assertEqual(caught.exception.line, 0)

    def test_tables_that_are_none(self):
        facts = Facts.done()
        for rows in ({("f", -1): facts}, {("f", True): facts}, {("f", "0"): facts}, {("F", 0): facts}, {("rest", 0): facts}, {("f",): facts}, {"f": facts}, {("f", 0, 0): facts},
                     {("f", 0): None}, {("f", 0): tuple(facts)}, {("f", 0): facts, ("f", 1): ()}, {("f", 10 ** 60): facts}, {(0, "f"): facts}, [(("f", 0), facts)], Table(LOG)):
            with self.assertRaises(InvalidTable):
                write_table(rows)

    def test_examples(self):
        self.assertEqual([write_fact(("get", (("put", "back"),), ("ask", "put"))), write_facts(Facts.ask("get")).split("\n"), write_marking(Marking.uniform(FLIP, "copy"))],
                         ["pair get with put back to ask put", ["way to ask get", "way get to end", "pair get to end"], "main 5 copy"])
        self.assertEqual([read_fact("way a b to rest 4"), read_program(write_program(INNER)) == INNER], [(("a", "b"), ("rest", 4)), True])
        for program in EXAMPLES.values():
            self.assertEqual(read_program(write_program(program)), program)


if __name__ == "__main__":
    unittest.main()
