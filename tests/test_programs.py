"""Programs: what is one, and what it tells of itself."""

import random
import unittest

from restwise.base.codes import Code, is_code
from restwise.base.programs import Program
from restwise.errors import InvalidProgram, UnknownName, UnknownPlace
from tests import oracle, plain_programs
from tests.making import INNER, LOG, LOSE, random_programs
from tests.values import every_kind

WIDE = Program.from_lines(
    "f: test done then ask get call f",
    "main: handle get put: call f hold step end then test rest step z rest then rest step y",
    "w: hold handle a: hold ask a call w done",
)


def program_of(**texts):
    return Program({name: Code.read(text) for name, text in texts.items()})


class Accepted(unittest.TestCase):
    def refused(self, functions):
        with self.assertRaises(InvalidProgram):
            Program(functions)

    def test_one_function_and_six_and_seven(self):
        codes = {name: Code.leaf("done") for name in "abcdef"}
        self.assertEqual(len(Program({"a": Code.leaf("done")})), 1)
        self.assertEqual(len(Program(codes)), 6)
        self.refused({**codes, "g": Code.leaf("done")})
        self.refused({})

    def test_eight_handles_and_nine(self):
        handle = "handle a: done done done"
        eight = {"f": Code.read("then " * 3 + " ".join([handle] * 4)), "g": Code.read("then " * 3 + " ".join([handle] * 4))}
        self.assertEqual(len(Program(eight).handles), 8)
        self.refused({**eight, "h": Code.read(handle)})
        nested = "done"
        for _ in range(9):
            nested = f"handle a: {nested} done done"
            self.assertTrue(is_code(Code.read(nested).nodes))
        self.refused({"f": Code.read(nested)})

    def test_three_labels_and_four(self):
        three = program_of(f="then ask a ask b", g="handle c: done done done")
        self.assertEqual(three.labels, ("a", "b", "c"))
        self.refused({"f": Code.read("then ask a ask b"), "g": Code.read("handle c: ask d done done")})
        self.refused({"f": Code.read("handle a b c: ask d done done done done")})
        self.refused({"f": Code.read("then ask a then ask b then ask c ask d")})

    def test_forty_nodes(self):
        functions = {name: Code.read("hold " * 39 + "done") for name in "abcdef"}
        self.assertEqual(str(Program(functions)), "program of 6 functions, 240 nodes")

    def test_loose_rests(self):
        for text in ("rest", "then step s rest", "test rest done", "then rest then rest done"):
            self.refused({"main": Code.read(text)})
        self.assertEqual(program_of(main="handle a: done done rest").rests, (("main", 3),))

    def test_lacking_functions(self):
        self.refused({"main": Code.leaf("call", "f")})
        self.refused({"main": Code.read("handle a: call main done then rest call f")})
        self.assertEqual(len(program_of(main="call f", f="call main")), 2)

    def test_rings_and_functions_that_call_themselves(self):
        ring = program_of(a="call b", b="call c", c="then ask x call a", d="call d")
        self.assertEqual([ring.free_labels((name, 0)) for name in ring], [("x",), ("x",), ("x",), ()])
        self.assertEqual([ring.needed(name) for name in ring], [("a", "b", "c")] * 3 + [("d",)])

    def test_free_labels_that_come_through_a_call_only(self):
        behind = "handle a: done done then rest call f"
        self.refused({"f": Code.leaf("ask", "a"), "main": Code.read(behind)})
        self.refused({"f": Code.leaf("call", "g"), "g": Code.read("test call f ask b"), "main": Code.read(behind)})
        self.assertEqual(program_of(f="handle b: ask b done done", main=behind).free_labels(("main", 3)), ())
        doubling = "handle a: then ask a call f done then rest rest"
        self.refused({"f": Code.leaf("ask", "b"), "main": Code.read(doubling)})
        self.refused({"f": Code.leaf("call", "g"), "g": Code.read("then ask b call f"), "main": Code.read(doubling)})
        self.assertTrue(program_of(f="ask a", main=doubling).is_doubling(("main", 5)))
        self.refused({"f": Code.leaf("ask", "a"), "main": Code.read("handle a: ask a call f then rest rest")})
        self.refused({"f": Code.leaf("ask", "a"), "main": Code.read("handle a b: ask a done then rest rest call f")})

    def test_what_is_no_dict_of_codes(self):
        wrong = [{"main": None}, {"main": "done"}, {"main": (("done",),)}, {"Main": Code.leaf("done")},
                 {"rest": Code.leaf("done")}, {"": Code.leaf("done")}, {1: Code.leaf("done")}, {None: Code.leaf("done")},
                 {("main",): Code.leaf("done")}, [("main", Code.leaf("done"))], (("main", Code.leaf("done")),),
                 {"main": Code.leaf("done"), "f": 1}, {"toolongname": Code.leaf("done")}, LOG, Code.leaf("done")]
        for value in wrong + [value for value in every_kind() if not isinstance(value, dict)]:
            self.refused(value)
        for value in [value for value in every_kind() if isinstance(value, dict)]:
            right = value and all(isinstance(code, Code) and name == "get" for name, code in value.items())
            if not right:
                self.refused(value)

    def test_random_functions_against_a_plain_reading(self):
        chance = random.Random(5)
        told = {True: 0, False: 0}
        for _ in range(2500):
            names = chance.choice([("f",), ("f", "g"), ("f", "g", "h")])
            trees = {}
            for name in names:
                nodes = oracle.random_tree(chance, chance.randrange(1, 16), False)
                if is_code(nodes):
                    trees[name] = nodes
            if len(trees) == len(names):
                is_right = plain_programs.is_program(trees)
                told[is_right] += 1
                if is_right:
                    self.assertEqual(len(Program({name: Code(nodes) for name, nodes in trees.items()})), len(trees))
                else:
                    self.refused({name: Code(nodes) for name, nodes in trees.items()})
        self.assertGreater(min(told.values()), 200, told)


class Told(unittest.TestCase):
    def test_functions_and_names(self):
        codes = {"main": Code.leaf("call", "f"), "f": Code.leaf("ask", "b"), "a": Code.leaf("done")}
        program = Program(codes)
        self.assertEqual(program.functions, codes)
        self.assertEqual(list(program.functions), ["a", "f", "main"])
        self.assertEqual(program.names, ("a", "f", "main"))
        self.assertEqual(list(program), ["a", "f", "main"])
        self.assertEqual(len(program), 3)

    def test_lines(self):
        self.assertEqual(WIDE.lines, (
            "f: test done then ask get call f",
            "main: handle get put: call f hold step end then test rest step z rest then rest step y",
            "w: hold handle a: hold ask a call w done"))
        self.assertEqual(Program.from_lines(*WIDE.lines), WIDE)

    def test_labels_and_places(self):
        self.assertEqual(WIDE.labels, ("a", "get", "put"))
        self.assertEqual(WIDE.asks, (("f", 3), ("w", 3)))
        self.assertEqual(WIDE.handles, (("main", 0), ("w", 1)))
        self.assertEqual(WIDE.holds, (("main", 2), ("w", 0), ("w", 2)))
        self.assertEqual(WIDE.rests, (("main", 6), ("main", 8), ("main", 10)))
        self.assertEqual(WIDE.clauses, (("main", 4), ("main", 9), ("w", 5)))
        empty = program_of(main="done")
        self.assertEqual((empty.labels, empty.asks, empty.handles, empty.holds, empty.rests, empty.clauses), ((),) * 6)

    def test_places_ascend_by_names_and_then_by_indices(self):
        program = Program({name: Code.read("then " + "hold " * 12 + "done hold done") for name in ("b", "a", "aa")})
        self.assertEqual(program.holds, tuple(sorted(program.holds)))
        self.assertEqual(program.holds[0], ("a", 1))
        self.assertEqual(program.holds[13], ("aa", 1))

    def test_codes_by_name(self):
        self.assertEqual(WIDE["f"], Code.read("test done then ask get call f"))
        for name in [value for value in every_kind() if value != "f"] + ["F", "mai", "main "]:
            with self.assertRaises(UnknownName) as caught:
                program_of(f="done")[name]
            self.assertIs(caught.exception.wanted, name)

    def test_nodes_and_clauses(self):
        self.assertEqual(WIDE.node(("main", 0)), ("handle", "get", "put"))
        self.assertEqual(WIDE.node(("f", 4)), ("call", "f"))
        self.assertEqual([WIDE.clause(("main", 0), label) for label in ("get", "put")], [("main", 4), ("main", 9)])
        self.assertEqual(WIDE.clause(("w", 1), "a"), ("w", 5))
        for label in ("a", "z", "handle", 0, 1, None, ("get",), ["get"], {}, ""):
            with self.assertRaises(UnknownName) as caught:
                WIDE.clause(("main", 0), label)
            self.assertIs(caught.exception.wanted, label)
        for place in [place for place in (("main", 1), ("main", 4), ("w", 0), ("f", 0))]:
            with self.assertRaises(UnknownPlace) as caught:
                WIDE.clause(place, "get")
            self.assertIs(caught.exception.spot, place)

    def test_callers_and_needed(self):
        program = program_of(a="then call b call b", b="test call c call a", c="done", d="call c")
        self.assertEqual([program.callers(name) for name in program], [("b",), ("a",), ("b", "d"), ()])
        self.assertEqual([program.needed(name) for name in program],
                         [("a", "b", "c"), ("a", "b", "c"), ("c",), ("c", "d")])
        self.assertEqual(WIDE.callers("w"), ("w",))

    def test_free_labels_of_each_form(self):
        program = program_of(
            f="then ask a hold ask b",
            main="handle a: then call f step s test ask c done then step q ask a",
            g="handle b c: call main done handle a: ask a ask b done done")
        self.assertEqual(program.free_labels(("f", 0)), ("a", "b"))
        self.assertEqual(program.free_labels(("f", 2)), ("b",))
        self.assertEqual(program.free_labels(("main", 1)), ("a", "b"))
        self.assertEqual(program.free_labels(("main", 2)), ("a", "b"))
        self.assertEqual(program.free_labels(("main", 3)), ())
        self.assertEqual(program.free_labels(("main", 4)), ("c",))
        self.assertEqual(program.free_labels(("main", 0)), ("a", "b", "c"))
        self.assertEqual(program.free_labels(("g", 3)), ("b",))
        self.assertEqual(program.free_labels(("g", 0)), ("a", "b"))
        self.assertEqual([program.is_quiet(("main", index)) for index in (0, 3, 4, 7)], [False, True, False, False])

    def test_free_labels_against_a_plain_reading(self):
        for program in random_programs(11, 60, 18, labels=("a", "b", "c")):
            tops = {name: oracle.Spot(program[name].nodes, 0, None, False) for name in program}
            free = plain_programs.free_functions(tops)
            for name, top in tops.items():
                for spot in top.all():
                    self.assertEqual(program.free_labels((name, spot.index)),
                                     tuple(sorted(plain_programs.free_of(spot, free))))
                    self.assertIs(program.is_quiet((name, spot.index)), not plain_programs.free_of(spot, free))
                    if spot.is_clause:
                        self.assertIs(program.is_doubling((name, spot.index)), plain_programs.doubles(spot))

    def test_doubling_clauses(self):
        program = program_of(main="handle a b c: done done then rest rest test rest rest then step s then rest test done rest")
        self.assertEqual([program.is_doubling(place) for place in program.clauses], [True, False, True])
        inner = program_of(main="handle a: done done then rest handle b: done done then rest rest")
        self.assertEqual([(place, inner.is_doubling(place)) for place in inner.clauses],
                         [(("main", 3), False), (("main", 8), True)])
        for place in (("main", 0), ("main", 1), ("main", 4), ("main", 40), ("f", 3), ("main", True), None):
            with self.assertRaises(UnknownPlace) as caught:
                inner.is_doubling(place)
            self.assertIs(caught.exception.spot, place)

    def test_membership(self):
        for value in every_kind():
            self.assertIs(value in INNER, False)
        for name in ("f", "in", "loop", "main"):
            self.assertIs(name in INNER, True)
        self.assertIs("get" in program_of(get="done"), True)

    def test_equality(self):
        self.assertTrue(program_of(f="done", g="step s") == program_of(g="step s", f="done"))
        for other in (program_of(f="done"), program_of(f="done", g="step t"), program_of(f="done", h="step s"), None,
                      {"f": Code.leaf("done")}, LOG):
            self.assertFalse(program_of(f="done", g="step s") == other)
            self.assertTrue(program_of(f="done", g="step s") != other)

    def test_texts(self):
        self.assertEqual([str(LOG), str(LOSE), str(program_of(f="done"))],
                         ["program of 1 functions, 12 nodes", "program of 2 functions, 11 nodes",
                          "program of 1 functions, 1 nodes"])


class Unchanged(unittest.TestCase):
    def test_the_dict_that_was_passed(self):
        codes = {"main": Code.leaf("done"), "f": Code.leaf("step", "s")}
        program = Program(codes)
        codes["g"] = Code.leaf("done")
        codes["main"] = Code.leaf("step", "t")
        self.assertEqual(program.lines, ("f: step s", "main: done"))
        self.assertEqual(list(codes), ["main", "f", "g"])

    def test_the_dict_that_is_handed_out(self):
        program = program_of(f="done", g="step s")
        told = program.functions
        told["h"] = Code.leaf("done")
        told["f"] = None
        self.assertEqual(program.lines, ("f: done", "g: step s"))
        self.assertEqual(len(program), 2)


if __name__ == "__main__":
    unittest.main()
