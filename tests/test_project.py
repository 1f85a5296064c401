"""[15.1] to [15.3]: projects, compared with a plain model; sayings compared with runs."""

import random
import unittest

from restwise.around.marks import Marks
from restwise.around.standings import Standings
from restwise.base.codes import Code
from restwise.base.programs import Program
from restwise.errors import (InvalidNumber, InvalidOperation, InvalidProgram, InvalidWord, NothingToUndo, Refused, TooMany, UnknownName)
from restwise.need.rules import least_table
from restwise.run.marked import MARKS, Marked, Marking
from restwise.run.runs import all_runs
from restwise.use.modules import can_stand
from restwise.use.project import MAX_CHANGES, MAX_SAYINGS, Project
from tests.making import EXAMPLES, FLIP, INNER, LOG, Chance
from tests.values import every_kind, frozen

DONE, GET, STEP = Code.leaf("done"), Code.leaf("ask", "get"), Code.leaf("step", "p")
ERRORS = (InvalidWord, InvalidOperation, InvalidProgram, UnknownName, Refused, TooMany)


def plain_news(before, after):
    """The news by the words of [15.3], from two dicts of functions."""
    news = []
    old, new = (Program(before) if before else None), (Program(after) if after else None)
    for name in sorted(set(before) | set(after)):
        if name not in before:
            news.append((name, "new"))
        elif name not in after:
            news.append((name, "gone"))
        elif least_table(old)[(name, 0)] != least_table(new)[(name, 0)]:
            news.append((name, "facts"))
        elif Standings(old, name).events != Standings(new, name).events or before[name] != after[name]:
            news.append((name, "runs"))
    return tuple(news)


def plain_holds(functions, saying):
    program = Program(functions)
    word, name = saying[:2]
    events = Standings(program, name).events
    steps = {program.node(event[1])[1] for event in events if event[0] == "come" and program.node(event[1])[0] == "step"}
    if word == "safe":
        return not [event for event in events if event[0] == "stop"]
    if word in ("does", "never"):
        return (saying[2] in steps) == (word == "does")
    if word == "stands":
        return can_stand(program, saying[2], name)
    clauses = [program.clause(handle, saying[3]) for handle in program.handles if handle[0] == saying[2] and saying[3] in program.node(handle)[1:]]
    return all(any(MARKS.index(mark) <= MARKS.index(saying[4]) for mark in Marks(program, name).right(clause)) for clause in clauses)


def is_whole(functions):
    try:
        Program(functions)
    except InvalidProgram:
        return not functions
    return True


def names_of(saying):
    return saying[1:2] if saying[0] in ("safe", "does", "never") else saying[1:3]


class Model:
    """A project, plainly: snapshots of functions and sayings."""

    def __init__(self):
        self.functions, self.sayings, self.past, self.future = {}, (), [], []

    def refusal(self, functions, sayings):
        """The error of a change to these, None if it can be made."""
        if len(sayings) > 10 or len(self.past) == 200:
            return TooMany
        if not is_whole(functions):
            return InvalidProgram
        if any(name not in functions for saying in sayings for name in names_of(saying)):
            return InvalidOperation
        if any(not plain_holds(functions, saying) for saying in sayings):
            return Refused
        return None

    def change(self, word, functions, sayings):
        error = self.refusal(functions, sayings)
        if error is not None:
            return error
        news = plain_news(self.functions, functions)
        self.past.append((word, self.functions, self.sayings))
        self.functions, self.sayings, self.future = functions, sayings, []
        return news

    def undo(self, many):
        if many > len(self.past):
            return NothingToUndo
        before = self.functions
        for _ in range(many):
            word, functions, sayings = self.past.pop()
            self.future.append((word, self.functions, self.sayings))
            self.functions, self.sayings = functions, sayings
        return plain_news(before, self.functions)

    def redo(self, many):
        if many > len(self.future):
            return NothingToUndo
        before = self.functions
        for _ in range(many):
            word, functions, sayings = self.future.pop()
            self.past.append((word, self.functions, self.sayings))
            self.functions, self.sayings = functions, sayings
        return plain_news(before, self.functions)

    def put(self, name, code):
        return self.change("put", {**self.functions, name: code}, self.sayings)

    def remove(self, name):
        if name not in self.functions:
            return UnknownName
        return self.change("remove", {other: code for other, code in self.functions.items() if other != name}, self.sayings)

    def pin(self, saying):
        if any(name not in self.functions for name in names_of(saying)) or saying in self.sayings:
            return InvalidOperation
        return self.change("pin", self.functions, self.sayings + (saying,))

    def unpin(self, saying):
        if saying not in self.sayings:
            return InvalidOperation
        return self.change("unpin", self.functions, tuple(other for other in self.sayings if other != saying))


def told(project):
    return (project.functions, project.sayings, project.log)


def picture(project):
    """All of a project, also what can be done again."""
    twin = project.twin()
    rows = [told(twin)]
    for call in (twin.redo, twin.undo):
        while True:
            try:
                rows.append((call(), told(twin)))
            except NothingToUndo:
                break
    return rows


def result_of(call):
    try:
        return call()
    except (NothingToUndo, *ERRORS) as error:
        return type(error)


class Histories(unittest.TestCase):
    def random_change(self, chance, codes):
        word = chance.choice(["put", "put", "put", "remove", "pin", "pin", "pin", "unpin", "undo", "redo"])
        names = ("f", "g", "main")
        if word == "put":
            return word, (chance.choice(names), chance.choice(codes))
        if word == "remove":
            return word, (chance.choice(names + ("h",)),)
        if word in ("pin", "unpin"):
            name, other = chance.choice(names), chance.choice(names)
            return word, (chance.choice([("safe", name), ("does", name, chance.choice("pq")), ("never", name, chance.choice("pq")), ("stands", name, other),
                                         ("marked", name, other, chance.choice("ab"), chance.choice(MARKS))]),)
        return word, (chance.choice([0, 1, 1, 1, 2, 3, 7]),)

    def test_random_histories(self):
        kinds = {}
        for seed in range(40):
            chance = random.Random(seed)
            draw = Chance(seed, labels=("a", "b"), names=("f", "g", "main"), doubling=0.5)
            codes = [draw.sound_code(7) for _ in range(10)] + [Code.leaf("ask", "a"), STEP, Code.leaf("step", "q"), DONE, Code.leaf("call", "f"), Code.leaf("rest")]
            project, model = Project(), Model()
            for _ in range(45):
                word, arguments = self.random_change(chance, codes)
                if word in ("undo", "redo"):
                    wanted = getattr(model, word)(*arguments)
                    found = result_of(lambda: getattr(project, word)(many=arguments[0]))
                else:
                    if chance.random() < 0.2:
                        before = picture(project)
                        news = result_of(lambda: project.trial((word, *arguments)))
                        self.assertEqual(picture(project), before)
                    wanted = getattr(model, word)(*arguments)
                    found = result_of(lambda: getattr(project, word)(*arguments))
                self.assertEqual(found, wanted, (seed, word, arguments))
                self.assertEqual(told(project), (model.functions, model.sayings, tuple(row[0] for row in model.past)))
                kinds[(word, found if isinstance(found, type) else "news")] = kinds.get((word, found if isinstance(found, type) else "news"), 0) + 1
                for saying in project.sayings:
                    self.assertTrue(project.does_hold(saying))
        for kind in (("put", "news"), ("put", Refused), ("put", InvalidProgram), ("remove", Refused), ("remove", "news"), ("remove", InvalidProgram),
                     ("remove", UnknownName), ("pin", "news"), ("pin", Refused), ("pin", InvalidOperation), ("unpin", "news"), ("unpin", InvalidOperation),
                     ("undo", "news"), ("redo", "news"), ("undo", NothingToUndo), ("redo", NothingToUndo)):
            if kind != ("remove", Refused):
                self.assertGreater(kinds.get(kind, 0), 2, (kind, kinds))

    def test_ten_sayings_and_eleven(self):
        project = Project.holding(FLIP)
        for number in range(MAX_SAYINGS):
            self.assertEqual(project.pin(("never", "main", "abcdefghij"[number])), ())
        with self.assertRaises(TooMany) as caught:
            project.pin(("does", "main", "nothere"))
        self.assertEqual(caught.exception.limit, 10)
        with self.assertRaises(InvalidOperation):
            project.pin(("never", "main", "a"))
        project.unpin(("never", "main", "c"))
        with self.assertRaises(Refused):
            project.pin(("does", "main", "nothere"))
        project.pin(("does", "main", "p"))
        self.assertEqual((len(project.sayings), project.sayings[-1], project.log), (10, ("does", "main", "p"), ("pin",) * 10 + ("unpin", "pin")))

    def test_two_hundred_changes_and_one_more(self):
        project = Project()
        for number in range(MAX_CHANGES):
            project.put("f", STEP if number % 2 else DONE)
        before = picture(project)
        for call in (lambda: project.put("f", GET), lambda: project.remove("f"), lambda: project.pin(("safe", "f")), lambda: project.put("g", Code.leaf("rest"))):
            with self.assertRaises(TooMany) as caught:
                call()
            self.assertEqual(caught.exception.limit, 200)
        self.assertEqual(picture(project), before)
        with self.assertRaises(InvalidWord):
            project.put("rest", GET)
        with self.assertRaises(UnknownName):
            project.remove("g")
        self.assertEqual(project.undo(many=200), (("f", "gone"),))
        self.assertEqual((len(project), project.log), (0, ()))
        self.assertEqual(project.redo(many=200), (("f", "new"),))
        self.assertEqual(project.undo(), (("f", "runs"),))
        project.put("f", GET)
        self.assertEqual(len(project.log), 200)
        with self.assertRaises(NothingToUndo) as caught:
            project.redo()
        self.assertEqual(caught.exception.many, 1)

    def test_many_at_once_and_none(self):
        project = Project()
        for code in (DONE, STEP, GET):
            project.put("f", code)
        self.assertEqual((project.undo(many=0), project.redo(many=0), project.log), ((), (), ("put",) * 3))
        self.assertEqual((project.undo(many=2), project["f"]), ((("f", "facts"),), DONE))
        self.assertEqual((project.undo(many=0), project.redo(many=0), project["f"]), ((), (), DONE))
        self.assertEqual((project.redo(), project["f"], project.redo(), project["f"]), ((("f", "runs"),), STEP, (("f", "facts"),), GET))
        for number in (4, 200, 10 ** 59):
            for call in (project.undo, project.redo):
                with self.assertRaises(NothingToUndo) as caught:
                    call(many=number)
                self.assertEqual(caught.exception.many, number)
        for value in every_kind():
            if not (type(value) is int and 0 <= value < 10 ** 60):
                for call in (project.undo, project.redo):
                    with self.assertRaises(InvalidNumber) as caught:
                        call(many=value)
                    self.assertIs(caught.exception.number, value)

    def test_undo_of_nothing_leaves_what_can_be_done_again(self):
        project = Project()
        project.put("f", DONE)
        project.undo()
        with self.assertRaises(NothingToUndo):
            project.undo()
        with self.assertRaises(InvalidProgram):
            project.put("f", Code.leaf("rest"))
        self.assertEqual(project.redo(), (("f", "new"),))


class News(unittest.TestCase):
    def test_each_word(self):
        project = Project()
        self.assertEqual(project.put("main", Code.read("handle get: step q done rest")), (("main", "new"),))
        self.assertEqual(project.put("f", GET), (("f", "new"),))
        self.assertEqual(project.put("main", Code.read("handle get: call f done rest")), (("main", "runs"),))
        self.assertEqual(project.put("f", GET + STEP), (("f", "runs"), ("main", "runs")))
        self.assertEqual(project.put("f", GET + GET), (("f", "facts"), ("main", "runs")))
        self.assertEqual(project.put("f", GET + GET), ())
        self.assertEqual(project.put("main", Code.read("handle get: call f done rest")), ())
        self.assertEqual(project.put("main", Code.read("handle get: call f done then rest call main")), (("main", "facts"),))
        self.assertEqual(project.remove("main"), (("main", "gone"),))
        self.assertEqual(project.remove("f"), (("f", "gone"),))
        self.assertEqual(len(project.log), 10)

    def test_a_called_function_that_is_never_come_to(self):
        project = Project()
        project.put("f", Code.read("then ask get step p"))
        project.put("main", Code.read("handle get: then ask get call f done done"))
        self.assertEqual(project.put("f", Code.read("then step p ask get")), (("f", "runs"),))
        self.assertEqual(project.put("f", Code.read("then ask get ask get")), (("f", "facts"),))

    def test_a_changed_code_with_equal_facts_and_events_is_told(self):
        project = Project()
        project.put("f", Code.leaf("step", "p"))
        self.assertEqual(project.put("f", Code.leaf("step", "q")), (("f", "runs"),))


class Refusals(unittest.TestCase):
    def project(self):
        project = Project.holding(Program.from_lines("f: then ask get step p", "main: handle get: call f done then rest step z"))
        project.pin(("safe", "main"))
        project.pin(("does", "main", "p"))
        project.pin(("marked", "main", "main", "get", "move"))
        return project

    def test_the_first_saying_that_would_not_hold(self):
        project = self.project()
        before = picture(project)
        for code, saying in (("ask put", ("safe", "main")), ("ask get", ("does", "main", "p")), ("step q", ("does", "main", "p"))):
            with self.assertRaises(Refused) as caught:
                project.put("f", Code.read(code))
            self.assertEqual(caught.exception.reason, saying)
        with self.assertRaises(Refused) as caught:
            project.put("main", Code.read("handle get: call f done then rest rest"))
        self.assertEqual(caught.exception.reason, ("marked", "main", "main", "get", "move"))
        with self.assertRaises(Refused) as caught:
            project.pin(("never", "main", "z"))
        self.assertEqual(caught.exception.reason, ("never", "main", "z"))
        self.assertEqual(picture(project), before)

    def test_errors_in_order(self):
        project = self.project()
        project.put("g", DONE)
        project.pin(("stands", "f", "f"))
        project.pin(("stands", "g", "g"))
        before = picture(project)
        for call, error in ((lambda: project.put("rest", None), InvalidWord), (lambda: project.put("f", None), InvalidOperation),
                            (lambda: project.put("f", Code.leaf("rest")), InvalidProgram), (lambda: project.put("f", Code.leaf("call", "nope")), InvalidProgram),
                            (lambda: project.remove("nope"), UnknownName), (lambda: project.remove("f"), InvalidProgram), (lambda: project.remove("g"), InvalidOperation),
                            (lambda: project.pin(("safe", "nope")), InvalidOperation), (lambda: project.pin(("safe", "main")), InvalidOperation),
                            (lambda: project.unpin(("safe", "f")), InvalidOperation), (lambda: project.unpin(("safe", "nope")), InvalidOperation),
                            (lambda: project.pin(("safe", "f")), Refused)):
            with self.assertRaises(error) as caught:
                call()
            self.assertIs(type(caught.exception), error)
        self.assertEqual(picture(project), before)
        with self.assertRaises(UnknownName) as caught:
            project.remove("nope")
        self.assertEqual(caught.exception.wanted, "nope")

    def test_a_project_without_functions(self):
        project = Project()
        for call in (project.made, lambda: project.does_hold(("safe", "f")), lambda: project.pin(("safe", "f"))):
            with self.assertRaises(InvalidOperation):
                call()
        for call in (project.facts, project.lowest, project.remove, lambda name: project[name]):
            with self.assertRaises(UnknownName):
                call("f")
        project.put("f", DONE)
        project.pin(("safe", "f"))
        with self.assertRaises(InvalidOperation):
            project.remove("f")
        project.unpin(("safe", "f"))
        self.assertEqual(project.remove("f"), (("f", "gone"),))
        self.assertEqual(project, Project())

    def test_values_of_other_kinds(self):
        project = self.project()
        before = picture(project)
        for value in every_kind():
            held = frozen(value)
            if not isinstance(value, Code):
                with self.assertRaises(InvalidOperation):
                    project.put("f", value)
            for call in (project.pin, project.unpin, project.does_hold, lambda change: project.trial(change), lambda change: project.trial(("pin", change))):
                with self.assertRaises(InvalidOperation):
                    call(value)
            for call in (project.remove, project.facts, project.lowest, lambda name: project[name]):
                with self.assertRaises(UnknownName) as caught:
                    call(value)
                self.assertIs(caught.exception.wanted, value)
            self.assertFalse(value in project)
            self.assertFalse(project == value)
            if not isinstance(value, Program):
                with self.assertRaises(InvalidProgram):
                    Project.holding(value)
            self.assertEqual(frozen(value), held)
        for name in ("rest", "F", "", None, 1, ("f",), "x" * 9):
            with self.assertRaises(InvalidWord):
                project.put(name, None)
        self.assertEqual(picture(project), before)


class Sayings(unittest.TestCase):
    def test_forms(self):
        project = Project.holding(LOG)
        for saying in (("safe", "main"), ("does", "main", "a"), ("never", "main", "zzz"), ("stands", "main", "main"), ("marked", "main", "main", "get", "place"),
                       ("marked", "main", "main", "other", "place")):
            self.assertTrue(project.does_hold(saying), saying)
        for saying in (("never", "main", "a"), ("does", "main", "get"), ("does", "main", "main")):
            self.assertFalse(project.does_hold(saying))
        for saying in ((), ("safe",), ("safe", "main", "main"), ["safe", "main"], ("Safe", "main"), ("safe", "f"), ("safe", None), ("does", "main"), ("does", "main", "rest"),
                       ("does", "main", "A"), ("does", "main", None), ("never", "f", "a"), ("stands", "main"), ("stands", "main", "f"), ("stands", "f", "main"),
                       ("marked", "main", "main", "get"), ("marked", "main", "main", "get", "Place"), ("marked", "main", "main", "get", ("place",)),
                       ("marked", "main", "f", "get", "place"), ("marked", "main", "main", "rest", "place"), ("marked", "main", "main", 1, "place"),
                       ("marked", "main", "main", "get", "place", "x"), ("put", "main"), (("safe",), "main"), ("stops", "main"), ("safe", ["main"])):
            with self.assertRaises(InvalidOperation):
                project.does_hold(saying)

    def test_all_forms_of_random_programs(self):
        many = {True: 0, False: 0}
        for seed in range(80):
            program = Chance(seed, labels=("a", "b"), names=("f", "g", "main"), doubling=0.5).program(5 + seed % 16)
            project = Project.holding(program)
            for name in program:
                sayings = [("safe", name)] + [(word, name, step) for word in ("does", "never") for step in "pq"] + [("stands", name, other) for other in program]
                sayings += [("marked", name, other, label, mark) for other in program for label in "ab" for mark in MARKS]
                for saying in sayings:
                    self.assertEqual(project.does_hold(saying), plain_holds(program.functions, saying))
                    many[project.does_hold(saying)] += 1
        self.assertGreater(min(many.values()), 300)

    def test_no_run_goes_against_a_pinned_saying(self):
        against = 0
        for seed in range(120):
            chance = random.Random(seed)
            program = Chance(seed, labels=("a", "b"), names=("f", "g", "main"), doubling=0.5).program(5 + seed % 16)
            project = Project.holding(program)
            for name in program:
                for saying in [("safe", name), ("never", name, "p"), ("never", name, "q"), ("marked", name, chance.choice(list(program)), "a", chance.choice(MARKS[:3]))]:
                    holds = project.does_hold(saying)
                    if holds and len(project.sayings) < 10:
                        project.pin(saying)
                for run in list(all_runs(program, name, 4, moves=80))[:12]:
                    for saying in [("safe", name), ("never", name, "p"), ("never", name, "q")]:
                        goes = run.end[0] == "stop" if saying[0] == "safe" else saying[2] in run.steps
                        self.assertFalse(goes and saying in project.sayings)
                        against += goes
                    for _, first, other, label, mark in [saying for saying in project.sayings if saying[0] == "marked" and saying[1] == name]:
                        marking = Marks(program, name).least
                        for clause in [program.clause(handle, label) for handle in program.handles if handle[0] == other and label in program.node(handle)[1:]]:
                            self.assertLessEqual(MARKS.index(marking[clause]), MARKS.index(mark))
                            self.assertIsNone(Marked(run, Marking.uniform(program, "copy").with_mark(clause, marking[clause])).broken)
        self.assertGreater(against, 100)


class Blocks(unittest.TestCase):
    def project(self):
        project = Project.holding(INNER)
        project.put("g", DONE)
        project.pin(("does", "main", "z"))
        project.put("g", STEP)
        project.undo()
        return project

    def test_a_block(self):
        project = self.project()
        before = picture(project)
        with project.block() as same:
            self.assertIs(same, project)
            same.put("g", GET)
            same.unpin(("does", "main", "z"))
            same.undo(many=1)
            self.assertEqual(project["g"], GET)
        self.assertEqual(picture(project), before)
        self.assertEqual((project.redo(), project["g"]), ((("g", "runs"),), STEP))

    def test_a_block_left_by_an_error(self):
        project = self.project()
        before = picture(project)
        for error in (KeyError("x"), ValueError("y"), Refused(("safe", "main"))):
            with self.assertRaises(type(error)) as caught:
                with project.block() as same:
                    same.undo(many=2)
                    raise error
            self.assertIs(caught.exception, error)
            self.assertEqual(picture(project), before)
        with self.assertRaises(InvalidWord):
            with project.block():
                project.remove("g")
                project.put("rest", None)
        self.assertEqual(picture(project), before)

    def test_blocks_within_blocks(self):
        project = self.project()
        before = picture(project)
        with project.block():
            project.put("g", GET)
            inner = picture(project)
            with project.block():
                project.remove("g")
            self.assertEqual(picture(project), inner)
        self.assertEqual(picture(project), before)

    def test_a_block_that_is_made_early(self):
        project = self.project()
        block = project.block()
        project.put("h", DONE)
        with block:
            project.remove("h")
        self.assertIn("h", project)

    def test_during(self):
        project = self.project()
        before = picture(project)
        self.assertEqual(project.during(lambda same: (same is project, same.put("g", GET), len(same))), (True, (("g", "facts"),), 5))
        self.assertEqual(picture(project), before)
        with self.assertRaises(ZeroDivisionError):
            project.during(lambda same: same.put("g", GET) and 1 // 0)
        self.assertEqual(picture(project), before)
        self.assertIsNone(project.during(lambda same: None))

    def test_trials(self):
        project = self.project()
        before = picture(project)
        self.assertEqual(project.trial(), ())
        self.assertEqual(project.trial(("put", "g", GET), ("remove", "g"), ("pin", ("safe", "main"))), ((("g", "facts"),), (("g", "gone"),), ()))
        self.assertEqual(project.trial(("unpin", ("does", "main", "z")), ("pin", ("does", "main", "z"))), ((), ()))
        self.assertEqual(picture(project), before)
        for changes in ((("put", "g"),), (("put", "g", GET, 1),), (("undo",),), (("block",),), ((),), (["put", "g", GET],), (None,), (("pin",),), (("remove", "g"), "remove"),
                        (("put", "rest", None), ("made",)), (("Put", "g", GET),), ((("put",), "g", GET),)):
            with self.assertRaises(InvalidOperation):
                project.trial(*changes)
        for changes, error in (((("put", "rest", None),), InvalidWord), ((("remove", "g"), ("remove", "g")), UnknownName), ((("remove", "main"),), InvalidOperation),
                               ((("put", "g", GET), ("put", "main", DONE)), Refused), ((("put", "g", Code.leaf("rest")),), InvalidProgram)):
            with self.assertRaises(error):
                project.trial(*changes)
            self.assertEqual(picture(project), before)

    def test_trials_count_changes_and_sayings(self):
        project = Project.holding(FLIP)
        changes = [("pin", ("never", "main", step)) for step in "abcdefghijk"]
        with self.assertRaises(TooMany):
            project.trial(*changes)
        self.assertEqual(len(project.trial(*changes[:10])), 10)
        with self.assertRaises(TooMany):
            project.trial(*[("put", "f", DONE)] * 201)
        self.assertEqual(len(project.trial(*[("put", "f", DONE)] * 200)), 200)
        self.assertEqual(project.log, ())


class Views(unittest.TestCase):
    def test_twins_go_their_own_way(self):
        project = Project()
        project.put("f", DONE)
        project.put("f", STEP)
        project.undo()
        twin = project.twin()
        self.assertEqual((twin, picture(twin)), (project, picture(project)))
        before = picture(project)
        twin.redo()
        twin.put("g", GET)
        self.assertEqual(picture(project), before)
        self.assertNotEqual(twin, project)
        project.put("h", GET)
        self.assertEqual((list(twin), list(project)), (["f", "g"], ["f", "h"]))
        with self.assertRaises(NothingToUndo):
            project.redo()

    def test_views(self):
        for program in EXAMPLES.values():
            project = Project.holding(program)
            self.assertEqual((project.made(), project.functions, project.sayings, project.log), (program, program.functions, (), ()))
            self.assertEqual((list(project), len(project)), (list(program.names), len(program)))
            self.assertEqual(str(project), f"project of {len(program)} functions, 0 sayings")
            for name in program:
                self.assertEqual((project[name], name in project), (program[name], True))
                self.assertEqual(project.facts(name), least_table(program)[(name, 0)])
                self.assertEqual(project.lowest(name), Marks(program, name).least)
        self.assertEqual((str(Project()), list(Project()), len(Project()), Project().functions), ("project of 0 functions, 0 sayings", [], 0, {}))

    def test_equality(self):
        one, other = Project.holding(FLIP), Project()
        other.put("coin", FLIP["coin"])
        other.put("main", FLIP["main"])
        self.assertEqual(one, other)
        one.pin(("safe", "main"))
        self.assertNotEqual(one, other)
        one.pin(("does", "main", "p"))
        other.pin(("does", "main", "p"))
        other.pin(("safe", "main"))
        self.assertNotEqual(one, other)
        other.unpin(("does", "main", "p"))
        other.pin(("does", "main", "p"))
        self.assertEqual(one, other)
        self.assertEqual(str(one), "project of 2 functions, 2 sayings")

    def test_what_is_handed_out_is_not_shared(self):
        project = Project.holding(FLIP)
        project.functions.clear()
        self.assertEqual((len(project), project.functions), (2, FLIP.functions))


if __name__ == "__main__":
    unittest.main()
