"""What a code tells of its nodes, and its parts."""

import random
import unittest

from restwise.base.codes import Code, is_code
from restwise.errors import InvalidCode, InvalidNumber, InvalidOperation, UnknownName
from tests import oracle
from tests.values import every_kind

WIDE = Code.read("handle a b: then ask a call f step z then rest step y test rest hold handle c: done ask d rest")
LOOSE = Code.read("then test rest then step s rest test done rest")


def random_codes(seed, many):
    chance = random.Random(seed)
    found = []
    while len(found) < many:
        nodes = oracle.random_tree(chance, chance.randrange(1, 25), chance.random() < 0.6)
        if is_code(nodes):
            found.append(nodes)
    return found


class Told(unittest.TestCase):
    def test_the_properties_of_a_leaf(self):
        leaf = Code.leaf("ask", "get")
        self.assertEqual((leaf.nodes, leaf.text, leaf.labels), ((("ask", "get"),), "ask get", ("get",)))
        self.assertEqual((leaf.calls, leaf.steps, leaf.loose), ((), (), ()))
        rest = Code.leaf("rest")
        self.assertEqual((rest.labels, rest.calls, rest.steps, rest.loose), ((), (), (), (0,)))

    def test_names_are_ascending_and_stand_once(self):
        code = Code.read("then step q then step p then step q then call g then call f then call g then ask z then ask b ask z")
        self.assertEqual((code.labels, code.calls, code.steps), (("b", "z"), ("f", "g"), ("p", "q")))

    def test_labels_of_asks_and_of_handles(self):
        self.assertEqual(WIDE.labels, ("a", "b", "c", "d"))
        self.assertEqual((WIDE.calls, WIDE.steps), (("f",), ("y", "z")))

    def test_one_name_of_all_three_sorts(self):
        code = Code.read("then step x then call x ask x")
        self.assertEqual((code.labels, code.calls, code.steps), (("x",), ("x",), ("x",)))

    def test_loose_rests(self):
        self.assertEqual(LOOSE.loose, (2, 5, 8))
        self.assertEqual(WIDE.loose, ())
        self.assertEqual(Code.read("test rest handle a: done done rest").loose, (1,))

    def test_children(self):
        self.assertEqual([WIDE.children(index) for index in range(len(WIDE))],
                         [(1, 4, 5, 8), (2, 3), (), (), (), (6, 7), (), (), (9, 10), (), (11,), (12, 13, 14), (), (), ()])

    def test_the_clause_of_a_handle(self):
        self.assertEqual((WIDE.clause(0, "a"), WIDE.clause(0, "b"), WIDE.clause(11, "c")), (5, 8, 14))
        three = Code.read("handle a b c: hold done done then done rest rest hold done")
        self.assertEqual([three.clause(0, label) for label in ("a", "b", "c")], [4, 7, 8])

    def test_the_owner_of_a_rest(self):
        owners = {6: 5, 9: 8, 14: 14}
        self.assertEqual([WIDE.owner(index) for index in range(len(WIDE))], [owners.get(index) for index in range(len(WIDE))])
        self.assertEqual([LOOSE.owner(index) for index in range(len(LOOSE))], [None] * len(LOOSE))

    def test_indexing_iteration_length_and_membership(self):
        self.assertEqual(LOOSE[0], ("then",))
        self.assertEqual([LOOSE[index] for index in range(len(LOOSE))], list(LOOSE.nodes))
        self.assertEqual(list(LOOSE), list(LOOSE.nodes))
        self.assertEqual((len(LOOSE), len(Code.leaf("done"))), (9, 1))
        self.assertIs(("step", "s") in LOOSE, True)
        for value in (("step", "t"), ("ask", "s"), "rest", ["rest"], None, 0, True, (), (("rest",),), LOOSE):
            self.assertIs(value in LOOSE, False, value)
            self.assertIs(value not in LOOSE, True, value)

    def test_str(self):
        self.assertEqual((str(LOOSE), str(Code.leaf("done"))), ("code of 9 nodes", "code of 1 nodes"))

    def test_equality(self):
        self.assertIs(LOOSE == Code(LOOSE.nodes), True)
        self.assertIs(LOOSE != Code(LOOSE.nodes), False)
        for value in every_kind() + [LOOSE.nodes, LOOSE.text, WIDE, list(LOOSE.nodes)]:
            self.assertIs(LOOSE == value, False)
            self.assertIs(LOOSE != value, True)
            self.assertIs(value == LOOSE, False)

    def test_a_part_with_all_below_it(self):
        self.assertEqual(WIDE.part(0), WIDE)
        self.assertEqual([WIDE.part(index).text for index in (1, 4, 5, 8, 10)],
                         ["then ask a call f", "step z", "then rest step y",
                          "test rest hold handle c: done ask d rest", "hold handle c: done ask d rest"])
        self.assertEqual((WIDE.part(5).loose, WIDE.part(11).loose, LOOSE.part(4).loose), ((1,), (), ()))

    def test_random_codes_beside_the_words_of_the_document(self):
        for nodes in random_codes(3, 300):
            code = Code(nodes)
            spots = oracle.Spot(nodes, 0, None, False).all()
            self.assertEqual([spot.index for spot in spots], list(range(len(code))))
            for spot in spots:
                self.assertEqual(code.children(spot.index), tuple([child.index for child in spot.below]))
                self.assertEqual(code.part(spot.index).nodes, nodes[spot.index:spot.behind])
                home = oracle.home_of(spot) if spot.node[0] == "rest" else None
                self.assertEqual(code.owner(spot.index), home.index if home else None)
                for label, clause in zip(spot.node[1:], spot.below[2:]):
                    self.assertEqual(code.clause(spot.index, label), clause.index)
            loose = [spot.index for spot in spots if spot.node[0] == "rest" and oracle.home_of(spot) is None]
            self.assertEqual(code.loose, tuple(loose))


class WrongIndices(unittest.TestCase):
    def test_each_value_that_is_no_index(self):
        calls = (LOOSE.__getitem__, lambda index: LOOSE[index], LOOSE.children, LOOSE.part, LOOSE.owner,
                 lambda index: LOOSE.clause(index, None), lambda index: LOOSE.clause(index, "a"),
                 lambda index: LOOSE.with_part(index, None), lambda index: LOOSE.with_part(index, LOOSE))
        for value in every_kind() + [9, -9, -10, 10 ** 59, slice(0, 1), slice(None)]:
            if not isinstance(value, int) or isinstance(value, bool) or not 0 <= value < 9:
                for call in calls:
                    with self.assertRaises(InvalidNumber) as caught:
                        call(value)
                    self.assertIs(caught.exception.number, value)

    def test_each_value_that_is_no_label_of_this_handle(self):
        for value in every_kind() + ["c", "handle", "b ", ("a", "b")]:
            with self.assertRaises(UnknownName) as caught:
                WIDE.clause(0, value)
            self.assertIs(caught.exception.wanted, value)

    def test_other_nodes_have_no_clauses(self):
        for index in range(len(WIDE)):
            for label in ("a", "b", "c", "f", "z", "ask", "done", None):
                if (index, label) not in ((0, "a"), (0, "b"), (11, "c")):
                    with self.assertRaises(UnknownName) as caught:
                        WIDE.clause(index, label)
                    self.assertEqual(caught.exception.wanted, label)


class Replaced(unittest.TestCase):
    def test_a_part_in_the_place_of_another_one(self):
        code = Code.read("then ask a step s")
        self.assertEqual(code.with_part(2, Code.read("hold done")).text, "then ask a hold done")
        self.assertEqual(code.with_part(1, Code.read("then done done")).text, "then then done done step s")
        self.assertEqual(code.with_part(0, Code.leaf("rest")).text, "rest")
        self.assertEqual(code.text, "then ask a step s")

    def test_loose_rests_become_those_of_the_clause(self):
        code = Code.read("handle a: done done then done step s")
        made = code.with_part(4, Code.read("test rest done"))
        self.assertEqual((made.text, made.owner(5), made.loose), ("handle a: done done then test rest done step s", 3, ()))

    def test_loose_rests_stay_loose(self):
        self.assertEqual(Code.read("test done done").with_part(2, Code.read("then rest rest")).loose, (3, 4))

    def test_what_is_no_code(self):
        code = Code.read("handle a: done done then rest step s")
        self.assertEqual(code.with_part(2, Code.leaf("ask", "a")).text, "handle a: done ask a then rest step s")
        for index, text in ((1, "rest"), (2, "rest"), (5, "ask a")):
            with self.assertRaises(InvalidCode):
                code.with_part(index, Code.read(text))
        with self.assertRaises(InvalidCode):
            Code.read("hold done").with_part(1, Code.leaf("rest"))

    def test_forty_nodes_and_forty_one(self):
        code, long = Code.read("then done done"), Code.read("hold " * 37 + "done")
        self.assertEqual(len(code.with_part(1, long)), 40)
        with self.assertRaises(InvalidCode):
            code.with_part(1, long.held())

    def test_each_value_that_is_no_code(self):
        for value in every_kind():
            if not isinstance(value, Code):
                with self.assertRaises(InvalidOperation):
                    LOOSE.with_part(0, value)

    def test_random_parts(self):
        codes = [Code(nodes) for nodes in random_codes(4, 60)]
        chance = random.Random(5)
        made = {True: 0, False: 0}
        for code in codes:
            for _ in range(10):
                index, other = chance.randrange(len(code)), chance.choice(codes)
                end = index + len(code.part(index))
                nodes = code.nodes[:index] + other.nodes + code.nodes[end:]
                made[is_code(nodes)] += 1
                if is_code(nodes):
                    self.assertEqual(code.with_part(index, other).nodes, nodes)
                else:
                    with self.assertRaises(InvalidCode):
                        code.with_part(index, other)
        self.assertGreater(min(made.values()), 20)


if __name__ == "__main__":
    unittest.main()
