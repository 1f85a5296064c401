"""Programs that are made of others: `with_function`, `without`, `|`, `&`, `renamed`, `inlined`."""

import unittest

from restwise.base.codes import Code
from restwise.base.programs import Program, inlined, renamed
from restwise.errors import InvalidOperation, InvalidProgram, InvalidWord, UnknownName, UnknownPlace
from tests.making import EXAMPLES, FLIP, INNER, LOG, random_programs
from tests.values import every_kind

DONE, STEP = Code.leaf("done"), Code.leaf("step", "s")
TWO = Program.from_lines("f: ask a", "main: handle a: call f done rest")
SIX = Program({name: DONE for name in "abcdef"})


class WithFunction(unittest.TestCase):
    def test_another_function(self):
        made = TWO.with_function("g", STEP)
        self.assertEqual(made.lines, ("f: ask a", "g: step s", "main: handle a: call f done rest"))
        self.assertEqual(TWO.names, ("f", "main"))

    def test_in_the_place_of_one(self):
        self.assertEqual(TWO.with_function("f", STEP)["f"], STEP)
        self.assertEqual(TWO["f"], Code.leaf("ask", "a"))
        self.assertEqual(TWO.with_function("f", TWO["f"]), TWO)

    def test_no_program(self):
        for program, name, code in (
            (SIX, "g", DONE),
            (TWO, "g", Code.leaf("call", "h")),
            (TWO, "f", Code.leaf("rest")),
            (TWO, "g", Code.read("handle b c d: done done done done done")),
            (Program.from_lines("f: ask a", "main: handle a: done done then rest call g", "g: done"), "g", Code.leaf("call", "f")),
        ):
            with self.assertRaises(InvalidProgram):
                program.with_function(name, code)

    def test_names_and_codes_come_first(self):
        for name in [value for value in every_kind() if value not in ("get", "or")]:
            for code in (Code.leaf("rest"), None):
                with self.assertRaises(InvalidWord):
                    SIX.with_function(name, code)
        for code in [value for value in every_kind() if not isinstance(value, Code)]:
            with self.assertRaises(InvalidOperation):
                SIX.with_function("g", code)


class Without(unittest.TestCase):
    def test_the_others_stay(self):
        self.assertEqual(TWO.without("main").lines, ("f: ask a",))
        self.assertEqual(TWO.names, ("f", "main"))

    def test_no_program(self):
        for program, name in ((TWO, "f"), (TWO.without("main"), "f")):
            with self.assertRaises(InvalidProgram):
                program.without(name)
        self.assertEqual(Program.from_lines("f: call f", "g: done").without("f").names, ("g",))

    def test_wrong_names(self):
        for name in every_kind():
            with self.assertRaises(UnknownName) as caught:
                TWO.without(name)
            self.assertIs(caught.exception.wanted, name)


class Both(unittest.TestCase):
    def test_the_functions_of_both(self):
        other = Program.from_lines("f: ask a", "g: call g")
        self.assertEqual((TWO | other).names, ("f", "g", "main"))
        self.assertEqual(TWO | other, other | TWO)
        self.assertEqual(TWO | TWO, TWO)
        self.assertEqual((TWO.names, other.names), (("f", "main"), ("f", "g")))

    def test_unequal_codes(self):
        for make in (lambda: TWO | Program.from_lines("f: ask b"), lambda: SIX | Program.from_lines("a: step s", "g: done")):
            with self.assertRaises(InvalidOperation):
                make()

    def test_no_program(self):
        for other in (Program.from_lines("g: ask b", "h: then ask c ask d"),):
            with self.assertRaises(InvalidProgram):
                TWO | other
        with self.assertRaises(InvalidProgram):
            SIX | Program.from_lines("g: done")

    def test_what_both_have(self):
        other = Program.from_lines("f: ask a", "g: call g", "main: done")
        self.assertEqual((TWO & other).lines, ("f: ask a",))
        self.assertEqual(TWO & TWO, TWO)
        self.assertEqual(SIX & Program.from_lines("a: step s", "b: done", "z: done"), Program.from_lines("b: done"))

    def test_nothing_and_lacking_functions_are_no_program(self):
        with self.assertRaises(InvalidProgram):
            TWO & LOG
        with self.assertRaises(InvalidProgram):
            TWO & Program.from_lines("f: ask b", "main: handle a: call f done rest")

    def test_other_operands(self):
        for value in every_kind():
            if not isinstance(value, Program):
                for make in (lambda: TWO | value, lambda: TWO & value):
                    with self.assertRaises(InvalidOperation):
                        make()


def kept_names(program):
    steps = sorted({step for code in program.functions.values() for step in code.steps})
    return {"functions": {name: name for name in program}, "labels": {label: label for label in program.labels},
            "steps": {step: step for step in steps}}


class Renamed(unittest.TestCase):
    def test_the_same_names(self):
        for program in list(EXAMPLES.values()) + random_programs(8, 30, 15):
            self.assertEqual(renamed(program, **kept_names(program)), program)

    def test_other_names(self):
        made = renamed(INNER, functions={"f": "main", "in": "loop", "loop": "in", "main": "f"}, labels={"a": "b", "b": "a"},
                       steps={"z": "a"})
        self.assertEqual(made.lines, (
            "f: handle a: call loop done then rest call in", "in: call in", "loop: handle b: call main done then rest step a",
            "main: then ask b ask a"))
        self.assertEqual(INNER.lines[0], "f: then ask a ask b")

    def test_clauses_in_the_order_of_their_new_labels(self):
        program = Program.from_lines("f: handle a b c: done done rest step s then step t rest", "main: handle b: call f done rest")
        made = renamed(program, functions={"f": "g", "main": "main"}, labels={"a": "z", "b": "m", "c": "d"},
                       steps={"s": "s", "t": "s"})
        self.assertEqual(made.lines, ("g: handle d m z: done done then step s rest step s rest",
                                      "main: handle m: call g done rest"))
        self.assertEqual(made.clauses, (("g", 3), ("g", 6), ("g", 7), ("main", 3)))

    def test_back_again(self):
        functions, labels = {"f": "x", "g": "f", "main": "g"}, {"a": "c", "b": "a"}
        for program in random_programs(9, 40, 15):
            kept = kept_names(program)
            labels_here = {label: labels[label] for label in program.labels}
            made = renamed(program, functions=functions, labels=labels_here, steps=kept["steps"])
            again = renamed(made, functions={new: old for old, new in functions.items()},
                            labels={new: old for old, new in labels_here.items()}, steps=kept["steps"])
            self.assertEqual(again, program)

    def test_equal_new_names_of_steps_only(self):
        program = Program.from_lines("f: then step s then step t ask a", "g: ask b")
        self.assertEqual(renamed(program, functions={"f": "g", "g": "f"}, labels={"a": "b", "b": "a"},
                                 steps={"s": "u", "t": "u"}).lines, ("f: ask a", "g: then step u then step u ask b"))
        for change in ({"functions": {"f": "h", "g": "h"}}, {"labels": {"a": "x", "b": "x"}}):
            with self.assertRaises(InvalidOperation):
                renamed(program, **{**kept_names(program), **change})

    def test_names_too_many_or_too_few_and_no_names(self):
        right = kept_names(TWO)
        for word, known in right.items():
            wrong = [{}, {**known, "more": "more"}, {**known, "f": "rest"}, {name: "A" for name in known},
                     {name: None for name in known}, {name: [name] for name in known}, {"other": "other"},
                     {1: "a"}, {None: "a"}, {("a",): "a"}]
            for value in [value for value in wrong if value != known]:
                with self.assertRaises(InvalidOperation, msg=(word, value)):
                    renamed(TWO, **{**right, word: value})

    def test_wrong_kinds(self):
        for value in every_kind():
            if not isinstance(value, Program):
                with self.assertRaises(InvalidProgram):
                    renamed(value, functions=None, labels=None, steps=None)
            if not isinstance(value, dict):
                for word in ("functions", "labels", "steps"):
                    with self.assertRaises(InvalidOperation):
                        renamed(TWO, **{**kept_names(TWO), word: value})


class Inlined(unittest.TestCase):
    def test_the_code_of_the_called_function(self):
        self.assertEqual(inlined(TWO, ("main", 1)).lines, ("f: ask a", "main: handle a: ask a done rest"))
        self.assertEqual(TWO.lines[1], "main: handle a: call f done rest")
        program = Program.from_lines("f: then call f hold call g", "g: test ask a call f")
        self.assertEqual(inlined(program, ("f", 1)).lines[0], "f: then then call f hold call g hold call g")
        self.assertEqual(inlined(program, ("f", 3)).lines[0], "f: then call f hold test ask a call f")
        self.assertEqual(inlined(program, ("g", 2)).lines[1], "g: test ask a then call f hold call g")

    def test_a_call_behind_a_rest(self):
        self.assertEqual(inlined(INNER, ("main", 5)), INNER)
        program = Program.from_lines("f: handle a: ask a done done", "main: handle b: done done then rest call f")
        self.assertEqual(inlined(program, ("main", 5))["main"].text, "handle b: done done then rest handle a: ask a done done")

    def test_too_many_nodes(self):
        long = "hold " * 38 + "done"
        program = Program.from_lines(f"f: {long}", "g: hold call f", "h: then done call f")
        self.assertEqual(len(inlined(program, ("g", 1))["g"]), 40)
        with self.assertRaises(InvalidProgram):
            inlined(program, ("h", 2))

    def test_too_many_handles(self):
        four = "then " * 3 + " ".join(["handle a: done done done"] * 4)
        program = Program.from_lines(f"f: {four}", "g: call f", "h: then call f handle a: done done done")
        with self.assertRaises(InvalidProgram):
            inlined(program, ("h", 1))
        self.assertEqual(len(inlined(program.without("h"), ("g", 0)).handles), 8)

    def test_places_that_are_no_calls(self):
        for place in (("main", 0), ("main", 2), ("main", 3), ("f", 0), ("main", 4), ("main", -1), ("main", True), ("g", 0),
                      ["main", 1], ("main", "1"), ("main", 1, 1), ("main",), "main", 1, None, (), {}):
            with self.assertRaises(UnknownPlace) as caught:
                inlined(TWO, place)
            self.assertIs(caught.exception.spot, place)
        for value in every_kind():
            with self.assertRaises(UnknownPlace) as caught:
                inlined(TWO, value)
            self.assertIs(caught.exception.spot, value)
            if not isinstance(value, Program):
                with self.assertRaises(InvalidProgram):
                    inlined(value, None)


if __name__ == "__main__":
    unittest.main()
