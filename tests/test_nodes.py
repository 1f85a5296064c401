"""[0.8], [0.9], [2.1]: `is_node` and `is_code`."""

import random
import unittest

from restwise.base import codes
from restwise.base.codes import Code, is_code, is_node
from restwise.errors import InvalidCode
from tests import oracle
from tests.values import every_kind


def nodes_of(text):
    """The nodes of a text like those of codes, whatever they are."""
    nodes = []
    for word in text.split():
        if word in ("ask", "call", "done", "handle", "hold", "rest", "step", "test", "then"):
            nodes.append((word,))
        else:
            nodes[-1] = nodes[-1] + (word.rstrip(":"),)
    return tuple(nodes)


class Nodes(unittest.TestCase):
    def test_each_form(self):
        for value in (("done",), ("step", "s"), ("ask", "get"), ("call", "abcdefgh"), ("rest",), ("then",), ("test",),
                      ("hold",), ("handle", "a"), ("handle", "a", "b"), ("handle", "a", "b", "c")):
            self.assertIs(is_node(value), True, value)

    def test_names_too_many_or_too_few(self):
        for value in (("done", "a"), ("rest", "a"), ("then", "a"), ("test", "a"), ("hold", "a"), ("step",), ("ask",),
                      ("call",), ("step", "a", "b"), ("ask", "a", "b"), ("call", "a", "b"), ("done", "done")):
            self.assertIs(is_node(value), False, value)

    def test_handles_with_wrong_labels(self):
        for value in (("handle",), ("handle", "a", "b", "c", "d"), ("handle", "a", "a"), ("handle", "b", "a"),
                      ("handle", "a", "c", "b"), ("handle", "rest"), ("handle", "a", ""), ("handle", "a:"),
                      ("handle", ("a",)), ("handle", "a", None), ("handle", 1)):
            self.assertIs(is_node(value), False, value)

    def test_what_is_no_name(self):
        for word in ("step", "ask", "call"):
            for name in ("", "A", "rest", "abcdefghi", "a b", "a:", "a1", None, 1, True, ("a",), ["a"], {"a": 1}):
                self.assertIs(is_node((word, name)), False, (word, name))

    def test_other_words(self):
        for value in ((), ("",), ("get",), ("Done",), ("done ",), ("if", "a"), (None,), (1,), (("done",),), (["done"],),
                      (True, "a"), ({"done": 1},), (Code.leaf("done"),)):
            self.assertIs(is_node(value), False, value)

    def test_other_kinds(self):
        for value in ("done", ["done"], ["ask", "get"], {"done": "done"}, None, 1, True, "", Code.leaf("done")):
            self.assertIs(is_node(value), False, value)


class Trees(unittest.TestCase):
    def test_the_constants(self):
        self.assertEqual(codes.MAX_NODES, 40)
        self.assertEqual(codes.MAX_CLAUSES, 3)

    def test_forty_nodes_and_forty_one(self):
        for deep in ("hold ", "then done ", "test done "):
            many = len(deep.split())
            self.assertIs(is_code(nodes_of(deep * (39 // many) + "done")), True)
        self.assertIs(is_code((("hold",),) * 39 + (("done",),)), True)
        self.assertIs(is_code((("hold",),) * 40 + (("done",),)), False)
        self.assertIs(is_code((("hold",),) * 9000 + (("done",),)), False)

    def test_nodes_too_many_or_too_few(self):
        for text in ("then", "then done", "then done done done", "hold", "done done", "handle a: done done",
                     "handle a: done", "handle a: done done done done", "handle a b: done done done", "test then done done",
                     "hold done done", "step s step s"):
            self.assertIs(is_code(nodes_of(text)), False, text)
        for text in ("done", "then done done", "hold done", "handle a: done done done", "handle a b: done done done done",
                     "handle a b c: done done done done done", "test then done done done"):
            self.assertIs(is_code(nodes_of(text)), True, text)

    def test_tuples_of_nodes_only(self):
        for value in ((), [("done",)], (["done"],), ("done",), "done", {("done",): 1}, None, 0, True, (("done",), None),
                      (("then",), ("done",), "done"), (("nothing",),), Code.leaf("done"), (Code.leaf("done"),)):
            self.assertIs(is_code(value), False, value)

    def test_each_value_gets_an_answer(self):
        for value in every_kind():
            self.assertIsInstance(is_node(value), bool)
            self.assertIsInstance(is_code(value), bool)
            self.assertIsInstance(is_code((value,)), bool)
            self.assertIsInstance(is_code((("then",), value, ("done",))), bool)


class Rests(unittest.TestCase):
    """Each text with whether it is one of a code."""

    def check(self, expected, *texts):
        for text in texts:
            self.assertIs(is_code(nodes_of(text)), expected, text)
            if not expected:
                with self.assertRaises(InvalidCode):
                    Code(nodes_of(text))

    def test_loose_rests_beneath_then_and_test(self):
        self.check(True, "rest", "then rest rest", "test rest done", "test then done rest then rest done")

    def test_loose_rests_beneath_other_nodes(self):
        self.check(False, "hold rest", "then hold rest done", "handle a: rest done done", "handle a: done rest done",
                   "test done handle a: then done rest done done")

    def test_rests_of_clauses(self):
        self.check(True, "handle a: done done rest", "handle a: done done test rest then done rest",
                   "hold handle a: done done rest", "handle a: handle b: done done rest done done",
                   "handle a: done handle b: done done rest rest", "handle a: done done handle b: done done rest")
        self.check(False, "handle a: done done hold rest", "handle a: done done then done hold rest",
                   "handle a: done done handle b: rest done done", "handle a: done done handle b: done rest done")

    def test_asks_behind_loose_rests(self):
        self.check(False, "then rest ask a", "then then done rest ask a", "then test rest done ask a",
                   "then rest then done ask a", "then rest hold ask a", "then then rest done test done ask a",
                   "then rest handle a: ask b done done", "then rest handle a: done ask a done",
                   "then rest handle a: done done ask a")
        self.check(True, "then rest handle a: ask a done done", "then ask a rest", "test rest ask a", "then rest call f",
                   "then rest step s", "then then rest done hold handle a b: then ask a ask b done done rest",
                   "then test rest ask a done")

    def test_an_answer_around_does_not_help(self):
        self.check(False, "handle a: done done then rest ask a",
                   "handle b: handle a: done done then rest ask b done done",
                   "handle b: handle a: ask b done then rest rest done done")

    def test_asks_behind_rests_of_clauses(self):
        self.check(False, "handle a: done done then rest ask b", "handle a: done done then rest ask a",
                   "handle a: done done then test done rest then step s ask b")
        self.check(True, "handle a: done done then ask b rest", "handle a: done done then ask a rest",
                   "handle a: done done then rest handle b: ask b done rest", "handle a: ask b ask c then rest call f",
                   "then handle a: done done rest ask b", "handle a: done done test rest ask a")

    def test_a_rest_of_an_inner_clause_does_not_count(self):
        self.check(True, "handle a: done done then handle b: done done rest ask c", "then handle b: done done rest ask c")
        self.check(False, "handle a: done done then then handle b: done done rest rest ask c")

    def test_clauses_that_double(self):
        self.check(True, "handle a: ask a done then rest rest", "handle a: done done test rest then rest rest",
                   "handle a: handle b: ask b done done done then rest rest", "handle a: call f done then rest rest",
                   "handle a: done done then rest then step s test done rest")
        self.check(False, "handle a: ask b done then rest rest", "handle a: done ask a then rest rest",
                   "handle a: done ask b then rest rest", "handle a: done done then then ask b rest rest",
                   "handle a: done done test ask a then rest rest", "handle a b: done done ask c then rest rest",
                   "handle a: handle b: ask c done done done then rest rest")

    def test_rests_on_both_sides_of_a_test_do_not_double(self):
        self.check(True, "handle a: ask b ask c test rest rest", "handle a: ask b done test rest then done rest",
                   "handle a b: ask c done rest rest", "handle a: ask c done then done test rest rest")

    def test_loose_rests_that_double(self):
        self.check(True, "then rest rest", "then then ask a rest rest", "test ask a then rest rest")


class ByTheWords(unittest.TestCase):
    """`is_code` beside a second, plain reading of the document."""

    def check(self, nodes):
        expected = oracle.is_tree(nodes) and len(nodes) <= 40 and oracle.is_sound(nodes)
        self.assertIs(is_code(nodes), expected, nodes)
        return expected

    def test_all_small_trees(self):
        leaves = (("ask", "a"), ("rest",), ("done",))
        inner = (("then",), ("test",), ("hold",), ("handle", "a"))
        found = {True: 0, False: 0}
        for size in range(1, 8):
            for nodes in oracle.trees(size, leaves, inner):
                found[self.check(nodes)] += 1
        self.assertGreater(found[True], 100)
        self.assertGreater(found[False], 100)

    def test_all_small_trees_around_clauses(self):
        leaves = (("ask", "b"), ("rest",))
        clauses = [nodes for size in (1, 3, 5) for nodes in oracle.trees(size, leaves, (("then",), ("test",)))]
        for clause in clauses:
            for work in (("ask", "a"), ("ask", "b"), ("call", "f")):
                inside = (("handle", "a"), work, ("done",)) + clause
                self.check(inside)
                self.check((("then",), ("rest",)) + inside)
                self.check((("handle", "b"),) + inside + (("done",), ("done",)))
                self.check((("handle", "c"), ("done",), ("done",), ("then",), ("rest",)) + inside)

    def test_random_trees(self):
        chance = random.Random(1)
        found = {True: 0, False: 0}
        for _ in range(3000):
            found[self.check(oracle.random_tree(chance, chance.randrange(1, 30), chance.random() < 0.5))] += 1
        self.assertGreater(found[True], 300)
        self.assertGreater(found[False], 300)

    def test_random_nodes(self):
        chance = random.Random(2)
        nodes = [("done",), ("rest",), ("then",), ("hold",), ("handle", "a"), ("ask", "a")]
        for _ in range(3000):
            self.check(tuple([chance.choice(nodes) for _ in range(chance.randrange(1, 8))]))


if __name__ == "__main__":
    unittest.main()
