"""The interface of programs, runs, marks, facts, rules, tables and lines: names, arguments, examples."""

import inspect
import unittest

from restwise.around import held, marks, shown as shown_events, standings, trails
from restwise.around.held import can_be_lost, held_events
from restwise.around.marks import Marks
from restwise.around.shown import event_paper, happens_in, is_event_paper, run_to, trail_to
from restwise.around.standings import Standings
from restwise.around.trails import Trail, is_trail
from restwise.base import programs
from restwise.base.programs import Program, inlined, renamed
from restwise.errors import InvalidProgram
from restwise.need import families, lines, rules, tables
from restwise.need.families import END, Facts, is_covered
from restwise.need.lines import Lines, is_shown, round_of, shown
from restwise.need.rules import following, goes_back, has_more, least_table
from restwise.need.tables import Table, is_denial
from restwise.run import marked, runs
from restwise.run.marked import MARKS, Marked, Marking
from restwise.run.runs import Run
from restwise.base.codes import Code
from restwise.errors import Refused
from restwise.text import texts
from restwise.use import modules, project
from restwise.use.project import Project
from tests.making import FLIP, INNER, LOG, LOSE, OUTER

CONSTANTS = {
    programs: {"MAX_FUNCTIONS": 6, "MAX_HANDLES": 8},
    runs: {"MAX_MOVES": 20000},
    marked: {"MARKS": ("place", "jump", "move", "copy")},
    families: {"LEVELS": ("on", "back"), "END": ("end",), "MOST_LABELS": 6},
    lines: {"MAX_LINES": 4000},
    standings: {"MAX_STANDINGS": 20000},
    trails: {"MAX_POINTS": 20000},
    project: {"MAX_SAYINGS": 10, "MAX_CHANGES": 200},
}
FUNCTIONS = {
    programs: {"renamed": "(program, *, functions, labels, steps)", "inlined": "(program, place)"},
    runs: {"all_runs": "(program, name, tests, *, given=(), moves=200)"},
    families: {"is_outcome": "(value)", "is_need": "(value)", "is_fact": "(value)", "level_of": "(need, label)",
               "need_of": "(on, back)", "joined": "(*needs)", "is_covered": "(one, other)"},
    rules: {"is_table": "(program, value)", "following": "(program, place)", "has_more": "(program, place)",
            "goes_back": "(program, place, table)", "goes_again": "(program, place, table)",
            "facts_made": "(program, place, table)", "least_table": "(program)"},
    tables: {"is_closed": "(program, value)", "denial": "(program, place, fact)",
             "is_denial": "(program, place, fact, value)"},
    lines: {"is_lines": "(program, value)", "shown": "(program, place, fact)",
            "is_shown": "(program, place, fact, value)", "round_of": "(program, place, fact)"},
    standings: {"is_context": "(program, value)", "is_event": "(program, value)", "is_closed_set": "(program, name, table, value)",
                "never_paper": "(program, name, event)", "is_never_paper": "(program, name, event, value)"},
    marks: {"alike_paper": "(program, name, marking)", "is_alike_paper": "(program, name, marking, value)"},
    trails: {"is_trail": "(program, name, value)"},
    shown_events: {"trail_to": "(program, name, event)", "happens_in": "(run, event)", "run_to": "(program, name, event)",
                   "event_paper": "(program, name, event)", "is_event_paper": "(program, name, event, value)"},
    held: {"watched": "(program, place)", "open_places": "(program, place)", "place_behind": "(program, place, watched_place)",
           "can_be_lost": "(program, name, place)", "can_be_shared": "(program, name, place)", "can_be_left": "(program, name, place)",
           "held_events": "(program, name)", "event_in": "(program, name, place, word)"},
    modules: {"tester": "(name, fact, labels, *, loop)", "can_stand": "(program, name, other)", "stand_paper": "(program, name, other)",
              "is_stand_paper": "(program, name, other, value)", "exchanged": "(program, name, other)"},
    texts: {"write_program": "(program)", "read_program": "(text)", "write_fact": "(fact)", "read_fact": "(text)", "write_facts": "(facts)",
            "read_facts": "(text)", "write_table": "(rows)", "read_table": "(text)", "write_marking": "(marking)",
            "read_marking": "(program, text)"},
}
CLASSES = {
    Program: "(functions)", Run: "(program, name, world=(), *, given=(), moves=2000)", Marking: "(program, marks)",
    Marked: "(run, marking)", Facts: "(ways=(), pairs=())", Table: "(program, rows=None)", Lines: "(program, lines)",
    Standings: "(program, name)", Marks: "(program, name)", Trail: "(program, name, lines, points)", Project: "()",
}
HOMES = {Program: programs, Run: runs, Marking: marked, Marked: marked, Facts: families, Table: tables, Lines: lines,
         Standings: standings, Marks: marks, Trail: trails, Project: project}
METHODS = {
    Program: {"from_lines": "(*lines)", "node": "(self, place)", "clause": "(self, place, label)", "callers": "(self, name)",
              "needed": "(self, name)", "free_labels": "(self, place)", "is_quiet": "(self, place)",
              "is_doubling": "(self, place)", "with_function": "(self, name, code)", "without": "(self, name)"},
    Run: {"first": "(self, event)"},
    Marking: {"uniform": "(program, mark)", "with_mark": "(self, clause, mark)", "is_lower": "(self, value)"},
    Marked: {"deeds_ahead": "(self, index)"},
    Facts: {"done": "()", "ask": "(label)", "rest": "(index)", "covers": "(self, fact)", "to": "(self, outcome)",
            "is_within": "(self, value)", "reached": "(self, given)", "paired": "(self, label, given, back)"},
    Table: {"is_least": "(self)", "of": "(self, name)", "covers": "(self, place, fact)",
            "assuming": "(self, place, *facts)", "joined": "(self, other)", "common": "(self, other)",
            "is_within": "(self, other)", "each": "(self)"},
    Lines: {"height_at": "(self, index)", "upto": "(self, index)", "rule_at": "(self, index)",
            "followed_by": "(self, other)", "trimmed": "(self)"},
    Standings: {"contexts": "(self, place)", "answers": "(self, place)"},
    Marks: {"right": "(self, clause)", "against": "(self, clause, mark)", "is_alike": "(self, value)", "wrong": "(self, marking)",
            "mended": "(self, marking)"},
    Trail: {"told": "(self)", "events_at": "(self, index)", "upto": "(self, index)"},
    Project: {"holding": "(program)", "put": "(self, name, code)", "remove": "(self, name)", "pin": "(self, saying)", "unpin": "(self, saying)",
              "does_hold": "(self, saying)", "trial": "(self, *changes)", "block": "(self)", "during": "(self, call)", "undo": "(self, *, many=1)",
              "redo": "(self, *, many=1)", "made": "(self)", "facts": "(self, name)", "lowest": "(self, name)", "twin": "(self)"},
}
PROPERTIES = {
    Program: ("functions", "names", "labels", "lines", "asks", "handles", "holds", "rests", "clauses"),
    Run: ("program", "name", "world", "given", "row", "end", "moves", "tests", "asked", "places", "steps"),
    Marking: ("program", "marks"),
    Marked: ("run", "marking", "broken", "deeds", "costs"),
    Facts: ("ways", "pairs", "labels", "outcomes"),
    Table: ("program", "rows"),
    Lines: ("program", "lines", "place", "fact", "height"),
    Standings: ("program", "name", "come", "ended", "events", "never"),
    Marks: ("program", "name", "standings", "least"),
    Trail: ("program", "name", "lines", "points"),
    Project: ("functions", "sayings", "log"),
}
OPERATORS = {
    Program: ("__or__", "__and__", "__getitem__", "__contains__", "__len__", "__iter__", "__eq__", "__str__"),
    Run: ("__getitem__", "__len__", "__iter__", "__contains__", "__eq__", "__str__"),
    Marking: ("__and__", "__or__", "__getitem__", "__len__", "__iter__", "__eq__", "__str__"),
    Marked: ("__eq__", "__str__"),
    Facts: ("__add__", "__or__", "__and__", "__contains__", "__len__", "__bool__", "__iter__", "__eq__", "__str__"),
    Table: ("__getitem__", "__len__", "__contains__", "__eq__", "__str__"),
    Lines: ("__getitem__", "__len__", "__iter__", "__contains__", "__eq__", "__str__"),
    Standings: ("__contains__", "__len__", "__iter__", "__eq__", "__str__"),
    Marks: ("__getitem__", "__contains__", "__len__", "__iter__", "__eq__", "__str__"),
    Trail: ("__getitem__", "__len__", "__iter__", "__eq__", "__str__"),
    Project: ("__getitem__", "__iter__", "__contains__", "__len__", "__eq__", "__str__"),
}


def one_of_each():
    table = Table(LOG)
    lines_of_log = shown(LOG, ("main", 9), ((), ("rest", 11)))
    run, marking = Run(LOG, "main"), Marking.uniform(LOG, "move")
    return {Program: LOG, Run: run, Marking: marking, Marked: Marked(run, marking), Facts: Facts.ask("a"), Table: table,
            Lines: lines_of_log, Standings: Standings(LOG, "main"), Marks: Marks(LOG, "main"),
            Trail: trail_to(LOG, "main", ("ended", ("main", 11))), Project: Project.holding(LOG)}


class Listed(unittest.TestCase):
    def test_constants(self):
        for module, constants in CONSTANTS.items():
            for name, value in constants.items():
                self.assertEqual(getattr(module, name), value)
                self.assertIs(type(getattr(module, name)), type(value))

    def test_functions_stand_in_their_modules(self):
        for module, functions in FUNCTIONS.items():
            for name, arguments in functions.items():
                function = getattr(module, name)
                self.assertEqual(str(inspect.signature(function)), arguments, name)
                self.assertEqual(function.__module__, module.__name__)

    def test_classes_stand_in_their_modules(self):
        for kind, arguments in CLASSES.items():
            self.assertEqual(str(inspect.signature(kind)), arguments)
            self.assertEqual(kind.__module__, HOMES[kind].__name__)

    def test_methods_stand_in_the_classes_themselves(self):
        for kind, methods in METHODS.items():
            for name, arguments in methods.items():
                self.assertIn(name, vars(kind))
                self.assertEqual(str(inspect.signature(getattr(kind, name))), arguments, name)
            for name in OPERATORS[kind] + ("__init__",):
                self.assertIn(name, vars(kind), (kind, name))

    def test_properties_are_there_on_each_object_and_cannot_be_set(self):
        for kind, thing in one_of_each().items():
            for name in PROPERTIES[kind]:
                self.assertTrue(hasattr(thing, name), (kind, name))
                with self.assertRaises(AttributeError):
                    setattr(thing, name, ())

    def test_what_can_be_iterated_over(self):
        for kind, thing in one_of_each().items():
            if kind in (Table, Marked):
                with self.assertRaises(TypeError):
                    iter(thing)
                with self.assertRaises(TypeError):
                    list(thing)
            else:
                self.assertEqual(len(list(thing)), len(thing))

    def test_unlike_kinds_are_never_equal(self):
        things = list(one_of_each().values())
        for one in things:
            for other in things + [None, True, 0, "", (), [], {}, LOG.lines]:
                self.assertIs(one == other, one is other)
                self.assertIs(one != other, one is not other)


class Examples(unittest.TestCase):
    def test_programs(self):
        two = Program.from_lines("f: test done then ask get call f", "main: handle get: call f step end then rest step z")
        self.assertEqual([str(two), two.labels, two.handles, two.clauses, two.needed("main"), two.free_labels(("f", 0)),
                          two.is_quiet(("main", 0)), two.is_doubling(("main", 3))],
                         ["program of 2 functions, 11 nodes", ("get",), (("main", 0),), (("main", 3),), ("f", "main"),
                          ("get",), True, False])
        with self.assertRaises(InvalidProgram):
            Program.from_lines("main: handle a: then ask a ask b done then rest rest")

    def test_runs(self):
        row = (("ask", ("main", 2), ("main", 0)), ("step", ("main", 10)), ("rest", ("main", 11), 1), ("step", ("main", 4)),
               ("ask", ("main", 6), ("main", 0)), ("step", ("main", 10)), ("rest", ("main", 11), 1), ("step", ("main", 7)),
               ("last", ("main", 0)), ("ended", ("main", 11)), ("ended", ("main", 11)))
        self.assertEqual(Run(LOG, "main").row, row)
        told = [Run(FLIP, "main").steps, Run(INNER, "main", moves=30).end, Run(INNER, "f").end,
                Run(INNER, "f", given=("a", "b")).asked, str(Run(FLIP, "coin", moves=1))]
        self.assertEqual(told, [("p", "p"), ("cut",), ("stop", ("f", 1)), ("a", "b"), "1 moves, 0 events, stop"])
        row = (("open", ("mid", 1)), ("ask", ("mid", 2), ("mid", 0)), ("ask", ("mid", 5), ("main", 0)),
               ("drop", ("main", 3)), ("lost", ("mid", 1)))
        self.assertEqual(Run(LOSE, "main").row, row)

    def test_marks(self):
        flip, log = Run(FLIP, "main"), Run(LOG, "main")
        self.assertEqual([Marked(flip, Marking.uniform(FLIP, mark)).broken for mark in MARKS],
                         [(5, ("main", 5)), (1, ("main", 5)), (6, ("main", 5)), None])
        self.assertEqual([Marked(log, Marking.uniform(LOG, mark)).deeds for mark in ("place", "move", "copy")], [0, 4, 6])
        self.assertEqual(str(Marked(flip, Marking.uniform(FLIP, "copy"))), "5 deeds, not broken")

    def test_facts(self):
        get, put = Facts.ask("get"), Facts.ask("put")
        self.assertEqual([get.ways, get.pairs, str(get + put), get + get == get],
                         [(((), ("ask", "get")), (("get",), ("end",))), (("get", (), ("end",)),), "3 ways, 3 pairs", False])
        self.assertEqual((get + put).pairs, (("get", (), ("ask", "put")), ("get", (("put", "back"),), ("end",)),
                                             ("put", (("get", "on"),), ("end",))))
        self.assertEqual([(get + put).to(END).ways, (get | Facts.done()).ways,
                          is_covered(("get", (("put", "back"),), END), ("get", (("put", "on"),), END))],
                         [((("get", "put"), ("end",)),), (((), ("ask", "get")), ((), ("end",))), True])
        self.assertEqual([(get + put).reached(("get",)), (get + put).paired("get", ("put",), ()),
                          (get + put).paired("get", (), ("put",))],
                         [(("ask", "get"), ("ask", "put")), (("ask", "put"),), (("ask", "put"), ("end",))])

    def test_rules(self):
        self.assertEqual([least_table(LOG)[("main", 0)] == Facts.done(),
                          least_table(INNER)[("f", 0)] == Facts.ask("a") + Facts.ask("b")], [True, True])
        self.assertEqual([following(FLIP, ("main", 6)), has_more(FLIP, ("main", 6)),
                          goes_back(FLIP, ("main", 6), least_table(FLIP)), goes_back(INNER, ("main", 4), least_table(INNER))],
                         [(("main", 7),), True, True, False])
        one, two = least_table(INNER)[("in", 0)], least_table(OUTER)[("in", 0)]
        self.assertEqual([one == Facts.ask("b"), two.ways, two.pairs], [True, (((), ("ask", "a")),), ()])

    def test_tables(self):
        inner, end = Table(INNER), ((), ("end",))
        self.assertEqual([inner.of("in") == Facts.ask("b"), inner.covers(("f", 0), end), inner.is_least()],
                         [True, False, True])
        more = inner.assuming(("loop", 0), end)
        self.assertEqual([more.covers(("loop", 0), end), more.covers(("main", 0), end), inner.covers(("main", 0), end),
                          inner.is_within(more)], [True, True, False, True])
        self.assertEqual([is_denial(INNER, ("main", 0), end, inner.rows), is_denial(INNER, ("main", 0), end, more.rows),
                          inner.common(more) == inner], [True, False, True])

    def test_lines(self):
        end, rest = ((), ("end",)), ((), ("rest", 11))
        told = Lines(LOG, ((("main", 10), end, ()), (("main", 11), rest, ()), (("main", 9), rest, (0, 1))))
        self.assertEqual([told.fact, str(told), told.rule_at(2), round_of(LOG, ("main", 9), rest),
                          round_of(LOG, ("main", 9), end)], [((), ("rest", 11)), "3 lines, height 2", "then", 2, None])
        fact = (("b",), ("end",))
        self.assertEqual([is_shown(INNER, ("in", 0), fact, shown(INNER, ("in", 0), fact).lines),
                          round_of(INNER, ("in", 0), fact)], [True, 4])

    def test_standings(self):
        log, inner = Standings(LOG, "main"), Standings(INNER, "main")
        self.assertEqual([str(log), log.answers(("main", 0)), log.contexts(("main", 4)), log.never, ("ended", ("main", 11)) in log],
                         ["12 standings, 1 ended, 0 stops", (("main", 2), ("main", 6)), ((("get", ("main", 0), True),),), (), True])
        self.assertEqual([event for event in inner.events if event[0] in ("ended", "behind", "stop")],
                         [("behind", ("in", 4)), ("behind", ("main", 4)), ("ended", ("in", 4)), ("ended", ("main", 4))])
        self.assertEqual([Standings(OUTER, "main").never, inner.contexts(("f", 1)), Standings(INNER, "in").contexts(("f", 2))],
                         [(("main", 2), ("main", 5)), ((("a", ("in", 0), True), ("b", ("main", 0), True)),), ((("a", ("in", 0), True),),)])

    def test_right_marks(self):
        log, inner, outer = Marks(LOG, "main"), Marks(INNER, "main"), Marks(OUTER, "main")
        self.assertEqual([log[("main", 9)], inner.least.marks, outer.least.marks, Marks(FLIP, "main").right(("main", 5))],
                         ["place", {("in", 3): "move", ("main", 3): "move"}, {("in", 3): "move", ("main", 3): "place"}, ("copy",)])
        self.assertEqual([inner.against(("in", 3), "place"), outer.against(("main", 3), "jump"), Marks(OUTER, "f").least.marks, str(Marks(LOSE, "main"))],
                         [(("behind", ("in", 4)),), (("rest", ("main", 4)),), {("in", 3): "place", ("main", 3): "place"},
                          "1 place, 1 jump, 0 move, 0 copy"])

    def test_trails_and_runs(self):
        ended = trail_to(INNER, "main", ("ended", ("in", 4)))
        self.assertEqual([ended.told(), ended.points[-1][:3], is_trail(INNER, "in", (ended.lines, ended.points))],
                         [(("behind", ("in", 4)), ("ended", ("in", 4))), ("ended", ("in", 4), (("b", ("main", 0), True),)), False])
        self.assertEqual([run_to(INNER, "main", ("come", ("in", 5))).steps, event_paper(OUTER, "main", ("come", ("main", 5)))[0],
                          is_event_paper(FLIP, "main", ("again", ("main", 6)), ("run", (), 20))], [("z",), "never", True])
        self.assertEqual([happens_in(Run(FLIP, "main"), ("ended", ("main", 7))), happens_in(Run(FLIP, "main"), ("again", ("main", 7)))], [True, False])

    def test_holds(self):
        self.assertEqual([held_events(LOSE, "main"), held_events(LOSE, "mid"), can_be_lost(LOSE, "main", ("mid", 1))],
                         [{("mid", 1): ("lost",)}, {("mid", 1): ("left",)}, True])

    def test_a_project(self):
        made = Project()
        self.assertEqual([made.put("f", Code.read("then ask get step p")), made.put("main", Code.read("handle get: call f done then rest step z"))],
                         [(("f", "new"),), (("main", "new"),)])
        self.assertEqual([made.does_hold(("safe", "f")), made.pin(("does", "main", "p")), made.lowest("main").marks,
                          made.trial(("unpin", ("does", "main", "p")), ("put", "f", Code.leaf("step", "q")))],
                         [False, (), {("main", 3): "move"}, ((), (("f", "facts"), ("main", "runs")))])
        self.assertEqual([made.put("f", Code.read("test then ask get step p done")), made.log, made.undo(many=2), made.redo()],
                         [(("f", "facts"), ("main", "runs")), ("put", "put", "pin", "put"), (("f", "facts"), ("main", "runs")), ()])
        with self.assertRaises(Refused):
            made.put("f", Code.leaf("ask", "get"))

    def test_programs_made_again(self):
        self.assertEqual(renamed(FLIP, functions={"coin": "coin", "main": "main"}, labels={"or": "or"}, steps={"p": "p"}), FLIP)
        self.assertEqual(inlined(FLIP, ("main", 2))["main"].text, "handle or: then ask or step p done then rest rest")


if __name__ == "__main__":
    unittest.main()
