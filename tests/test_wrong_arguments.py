"""[0.4], [1.3]: each wrong value in each place of each call, and which of several errors is raised."""

import unittest
from itertools import combinations

from restwise.around.held import can_be_left, can_be_lost, can_be_shared, event_in, held_events, open_places, place_behind, watched
from restwise.around.marks import Marks, alike_paper, is_alike_paper
from restwise.around.shown import event_paper, happens_in, is_event_paper, run_to, trail_to
from restwise.around.standings import Standings, is_closed_set, is_context, is_event, is_never_paper, never_paper
from restwise.around.trails import Trail, is_trail
from restwise.base.codes import Code
from restwise.base.programs import Program, inlined
from restwise.errors import (InvalidCode, InvalidFact, InvalidLines, InvalidMarking, InvalidNumber, InvalidOperation, InvalidProgram,
                             InvalidTable, InvalidWord, InvalidWorld, ParseError, UnknownName, UnknownPlace)
from restwise.need.families import END, Facts, is_covered, is_fact, is_need, is_outcome, joined, level_of, need_of
from restwise.need.lines import Lines, is_lines, is_shown, round_of, shown
from restwise.need.rules import facts_made, following, goes_again, goes_back, has_more, is_table, least_table
from restwise.need.tables import Table, denial, is_closed, is_denial
from restwise.run.marked import Marked, Marking
from restwise.run.runs import Run, all_runs
from restwise.text.texts import (read_fact, read_facts, read_marking, read_program, read_table, write_fact, write_facts, write_marking, write_program,
                                 write_table)
from restwise.use.modules import can_stand, exchanged, is_stand_paper, stand_paper, tester
from restwise.use.project import Project
from tests.making import FLIP, LOG
from tests.values import every_kind, frozen

TABLE, RUN, MARKING = least_table(LOG), Run(LOG, "main"), Marking.uniform(LOG, "copy")
CALLING = Program.from_lines("f: done", "main: then call f step s")
WAY = ((), END)
LINES = shown(LOG, ("main", 0), WAY)
MORE = [("main", 12), ("main", -1), ("main", True), ("main", False), ("main", 10 ** 60), ("main", "0"), ["main", 0], ("main", 0, 0), ("main",),
        ("nope", 0), (0, "main"), ("main", (0,)), ("main", None), (["main"], 0), ({}, 0), ("main", [0]), ("main", {}), "main", "nope", ("b", "a"), ("a", "a"), ((), ("rest", True)), ("back",), -1, 13,
        20001, Marking.uniform(FLIP, "copy"), least_table(FLIP), {**TABLE, ("main", 12): Facts()}, {("main", 9): "Copy"}, "copy ", ("rest", -1),
        (("a", "on"), ("a", "back")), ("get", (("get", "on"),), END), Run(FLIP, "main"), Table(FLIP), LINES.lines,
        ("come", ("main", 12)), ("come", ("coin", 0)), ("rest", ("main", 11), 9), ("ended", ("main", 0)), ["come", ("main", 0)], ("come", ["main", 0]),
        ("drop", ("main", 0)), ("ask", ("main", 2), ()), ("come", ("main", False)), ("get", ("main", 0), True), (("get", ("main", 0), 1),), Standings(LOG, "main"),
        Marks(LOG, "main"), ("come", ("main", 0), (), (), ())]


class Sort:
    """A sort of parameter: a right value, the error of wrong ones, what it keeps, and which values are right, too."""

    def __init__(self, right, error, kept=None, others=lambda value: False):
        self.right, self.error, self.kept, self.others = right, error, kept, others
        self.found = None

    def wrong(self):
        if self.found is None:
            self.found = [value for value in every_kind() + MORE if not self.others(value) and not is_same(value, self.right)]
        return self.found


def is_same(one, other):
    return frozen(one) == frozen(other)


def exact(*places):
    return lambda value: any(is_same(value, place) for place in places)


PROGRAM = Sort(LOG, InvalidProgram, None, lambda value: isinstance(value, Program))
NAME = Sort("main", UnknownName, "wanted")
PLACE = Sort(("main", 9), UnknownPlace, "spot", exact(*LOG.asks, *LOG.handles, *[("main", index) for index in range(12)]))
HANDLE = Sort(("main", 0), UnknownPlace, "spot")
REST = Sort(("main", 11), UnknownPlace, "spot")
CLAUSE = Sort(("main", 9), UnknownPlace, "spot")
CALL = Sort(("main", 1), UnknownPlace, "spot")
LABEL = Sort("get", UnknownName, "wanted")
WORD = Sort("get", InvalidWord, None, exact("get", "or", "nope", "main", "copy"))
CODE = Sort(Code.leaf("done"), InvalidOperation, None, lambda value: isinstance(value, Code))
WORLD = Sort((True,), InvalidWorld, None, exact((), (True, False)))
GIVEN = Sort(("get",), InvalidOperation, None, exact(()))
MOVES = Sort(9, InvalidNumber, "number", lambda value: type(value) is int and 0 <= value <= 20000)
TESTS = Sort(3, InvalidNumber, "number", lambda value: type(value) is int and 0 <= value <= 12)
INDEX = Sort(0, InvalidNumber, "number", exact(1, 2))
MARKS = Sort({("main", 9): "copy"}, InvalidMarking)
MARK = Sort("copy", InvalidMarking)
A_RUN = Sort(RUN, InvalidOperation, None, lambda value: isinstance(value, Run))
A_MARKING = Sort(MARKING, InvalidMarking)
A_TABLE = Sort(TABLE, InvalidTable, None, lambda value: is_table(LOG, value))
ROWS = Sort(TABLE, InvalidTable, None, lambda value: value is None or is_closed(LOG, value))
FACT_THERE = Sort(((), ("rest", 11)), InvalidFact)
FACT = Sort(WAY, InvalidFact, None, is_fact)
OUTCOME = Sort(END, InvalidFact, None, is_outcome)
NEED = Sort((("a", "on"),), InvalidFact, None, is_need)
LABELS = Sort(("a", "b"), InvalidFact, None, exact((), ("get",), ("get", "put"), ("main",), ("back",)))
REST_INDEX = Sort(3, InvalidNumber, "number", lambda value: type(value) is int and 0 <= value < 10 ** 60)
FACTS = Sort(Facts.done(), InvalidOperation, None, lambda value: isinstance(value, Facts))
SAME_MARKING = Sort(MARKING, InvalidOperation)
SAME_TABLE = Sort(Table(LOG), InvalidOperation)
SAME_LINES = Sort(LINES, InvalidOperation)
SOME_LINES = Sort(LINES.lines, InvalidLines)
OTHER_PROGRAM = Sort(LOG, InvalidOperation, None, lambda value: isinstance(value, Program))
NEW_NAME = Sort("f", InvalidWord, None, exact("get", "or", "nope", "main", "copy"))

HELD = Program.from_lines("main: handle a: hold ask a done done")
A_PROGRAM = Sort(HELD, InvalidProgram, None, lambda value: isinstance(value, Program))
HOLD = Sort(("main", 1), UnknownPlace, "spot")
BEHIND = Sort(("main", 1), UnknownPlace, "spot", lambda value: isinstance(value, tuple) and value[:1] in (("main",), ("~main",)) and watched(HELD, ("main", 1)).shape.has_place(value))
HELD_WORD = Sort("lost", InvalidOperation)
TESTED = Sort((("get",), END), InvalidFact, None, lambda value: is_fact(value) and value[-1][0] != "rest")
TESTER_LABELS = Sort(("get", "put"), InvalidOperation, None, exact(("get",)))
SAYING = Sort(("safe", "main"), InvalidOperation)
A_PROJECT = Project.holding(LOG)
ROWS_TO_WRITE = Sort(TABLE, InvalidTable, None, lambda value: isinstance(value, dict) and all(isinstance(facts, Facts) for facts in value.values()))
MARKING_TEXT = Sort("main 9 copy", ParseError, None, lambda value: value == "")

EVENT = Sort(("ended", ("main", 11)), InvalidOperation, None, lambda value: is_event(LOG, value))
UNTOLD = Sort(("stop", ("main", 2)), InvalidOperation, None, lambda value: is_event(LOG, value))
ASK_OR_HANDLE = Sort(("main", 0), UnknownPlace, "spot", exact(*LOG.asks))
POINTS = Sort((("come", ("main", 0), (), (), ()),), InvalidLines)
TRAIL_LINES = Sort((), InvalidLines, None, exact(LINES.lines))
STANDINGS, RIGHT, TRAIL = Standings(LOG, "main"), Marks(LOG, "main"), trail_to(LOG, "main", ("ended", ("main", 11))).upto(2)

CALLS = {
    "node": (LOG.node, PLACE), "clause": (LOG.clause, HANDLE, LABEL), "callers": (LOG.callers, NAME), "needed": (LOG.needed, NAME),
    "free_labels": (LOG.free_labels, PLACE), "is_quiet": (LOG.is_quiet, PLACE), "is_doubling": (LOG.is_doubling, CLAUSE),
    "with_function": (LOG.with_function, NEW_NAME, CODE), "without": (LOG.with_function("f", Code.leaf("done")).without, NAME),
    "program[name]": (lambda name: LOG[name], NAME), "program |": (lambda other: LOG | other, OTHER_PROGRAM),
    "inlined": (lambda place: inlined(CALLING, place), CALL),
    "Run": (lambda program, name, world, given, moves: Run(program, name, world, given=given, moves=moves), PROGRAM, NAME, WORLD, GIVEN, MOVES),
    "all_runs": (lambda program, name, tests, given, moves: next(all_runs(program, name, tests, given=given, moves=moves)),
                 PROGRAM, NAME, TESTS, GIVEN, MOVES),
    "run[index]": (lambda index: Run(LOG, "main", moves=10)[index], INDEX),
    "Marking": (Marking, PROGRAM, MARKS), "uniform": (Marking.uniform, PROGRAM, MARK), "with_mark": (MARKING.with_mark, CLAUSE, MARK),
    "marking[clause]": (lambda clause: MARKING[clause], CLAUSE), "marking &": (lambda other: MARKING & other, SAME_MARKING),
    "marking |": (lambda other: MARKING | other, SAME_MARKING), "Marked": (Marked, A_RUN, A_MARKING),
    "deeds_ahead": (Marked(Run(LOG, "main", moves=7), MARKING).deeds_ahead, INDEX),
    "level_of": (level_of, NEED, WORD), "need_of": (need_of, LABELS, LABELS), "joined": (joined, NEED, NEED), "is_covered": (is_covered, FACT, FACT),
    "Facts.ask": (Facts.ask, WORD), "Facts.rest": (Facts.rest, REST_INDEX), "covers": (Facts.done().covers, FACT), "to": (Facts.done().to, OUTCOME),
    "reached": (Facts.done().reached, LABELS), "paired": (Facts.done().paired, WORD, LABELS, LABELS),
    "facts +": (lambda other: Facts.done() + other, FACTS), "facts |": (lambda other: Facts.done() | other, FACTS),
    "facts &": (lambda other: Facts.done() & other, FACTS),
    "following": (following, PROGRAM, REST), "has_more": (has_more, PROGRAM, REST), "goes_back": (goes_back, PROGRAM, REST, A_TABLE),
    "goes_again": (goes_again, PROGRAM, REST, A_TABLE), "facts_made": (facts_made, PROGRAM, PLACE, A_TABLE), "least_table": (least_table, PROGRAM),
    "is_table": (lambda program: is_table(program, TABLE), PROGRAM), "is_closed": (lambda program: is_closed(program, TABLE), PROGRAM),
    "Table": (Table, PROGRAM, ROWS), "table[place]": (lambda place: Table(LOG)[place], PLACE), "of": (Table(LOG).of, NAME),
    "table covers": (Table(LOG).covers, PLACE, FACT_THERE), "assuming": (Table(LOG).assuming, PLACE, FACT_THERE, FACT_THERE),
    "table joined": (Table(LOG).joined, SAME_TABLE), "common": (Table(LOG).common, SAME_TABLE), "is_within": (Table(LOG).is_within, SAME_TABLE),
    "denial": (lambda program, place, fact: denial(program, place, fact), PROGRAM, PLACE, Sort(((), END), InvalidFact)),
    "is_denial": (lambda program, place, fact: is_denial(program, place, fact, None), PROGRAM, PLACE, FACT_THERE),
    "is_lines": (lambda program: is_lines(program, LINES.lines), PROGRAM), "Lines": (Lines, PROGRAM, SOME_LINES),
    "height_at": (LINES.upto(2).height_at, INDEX), "upto": (LINES.upto(2).upto, INDEX), "rule_at": (LINES.upto(2).rule_at, INDEX),
    "lines[index]": (lambda index: LINES.upto(2)[index], INDEX), "followed_by": (LINES.followed_by, SAME_LINES),
    "shown": (shown, PROGRAM, PLACE, FACT_THERE), "is_shown": (lambda *three: is_shown(*three, None), PROGRAM, PLACE, FACT_THERE),
    "round_of": (round_of, PROGRAM, PLACE, FACT_THERE),
    "Standings": (Standings, PROGRAM, NAME), "contexts": (STANDINGS.contexts, PLACE), "answers": (STANDINGS.answers, ASK_OR_HANDLE),
    "is_context": (lambda program: is_context(program, ()), PROGRAM), "is_event": (lambda program: is_event(program, ()), PROGRAM),
    "is_closed_set": (lambda *three: is_closed_set(*three, None), PROGRAM, NAME, A_TABLE), "never_paper": (never_paper, PROGRAM, NAME, UNTOLD),
    "is_never_paper": (lambda *three: is_never_paper(*three, None), PROGRAM, NAME, EVENT), "Marks": (Marks, PROGRAM, NAME), "right": (RIGHT.right, CLAUSE),
    "against": (RIGHT.against, CLAUSE, MARK), "marks[clause]": (lambda clause: RIGHT[clause], CLAUSE), "wrong": (RIGHT.wrong, A_MARKING),
    "mended": (RIGHT.mended, A_MARKING), "alike_paper": (alike_paper, PROGRAM, NAME, A_MARKING),
    "is_alike_paper": (lambda *three: is_alike_paper(*three, None), PROGRAM, NAME, A_MARKING), "is_trail": (lambda *two: is_trail(*two, None), PROGRAM, NAME),
    "Trail": (Trail, PROGRAM, NAME, TRAIL_LINES, POINTS), "events_at": (TRAIL.events_at, INDEX), "trail upto": (TRAIL.upto, INDEX),
    "trail[index]": (lambda index: TRAIL[index], INDEX), "trail_to": (trail_to, PROGRAM, NAME, EVENT), "run_to": (run_to, PROGRAM, NAME, EVENT),
    "happens_in": (happens_in, A_RUN, EVENT), "event_paper": (event_paper, PROGRAM, NAME, EVENT),
    "is_event_paper": (lambda *three: is_event_paper(*three, None), PROGRAM, NAME, EVENT),
    "watched": (watched, A_PROGRAM, HOLD), "open_places": (open_places, A_PROGRAM, HOLD), "place_behind": (place_behind, A_PROGRAM, HOLD, BEHIND),
    "can_be_lost": (can_be_lost, A_PROGRAM, NAME, HOLD), "can_be_shared": (can_be_shared, A_PROGRAM, NAME, HOLD),
    "can_be_left": (can_be_left, A_PROGRAM, NAME, HOLD), "held_events": (held_events, A_PROGRAM, NAME),
    "event_in": (event_in, A_PROGRAM, NAME, HOLD, HELD_WORD),
    "tester": (lambda name, fact, labels, loop: tester(name, fact, labels, loop=loop), NEW_NAME, TESTED, TESTER_LABELS, NEW_NAME),
    "can_stand": (can_stand, PROGRAM, NAME, NAME), "stand_paper": (stand_paper, PROGRAM, NAME, NAME), "exchanged": (exchanged, PROGRAM, NAME, NAME),
    "is_stand_paper": (lambda *three: is_stand_paper(*three, None), PROGRAM, NAME, NAME),
    "holding": (Project.holding, PROGRAM), "put": (lambda name, code: A_PROJECT.twin().put(name, code), NEW_NAME, CODE),
    "pin": (lambda saying: A_PROJECT.twin().pin(saying), SAYING), "does_hold": (A_PROJECT.does_hold, SAYING), "facts": (A_PROJECT.facts, NAME),
    "lowest": (A_PROJECT.lowest, NAME), "remove": (lambda name: A_PROJECT.twin().remove(name), NAME), "project[name]": (lambda name: A_PROJECT[name], NAME),
    "write_program": (write_program, PROGRAM), "write_fact": (write_fact, FACT), "write_facts": (write_facts, Sort(Facts.done(), InvalidFact, None,
                                                                                                           lambda value: isinstance(value, Facts))),
    "write_table": (write_table, ROWS_TO_WRITE), "write_marking": (write_marking, Sort(MARKING, InvalidMarking, None, lambda value: isinstance(value, Marking))),
    "read_program": (read_program, Sort("main: done", ParseError, None, lambda value: value == "")), "read_fact": (read_fact, Sort("way to end", ParseError)),
    "read_facts": (read_facts, Sort("way to end", ParseError, None, lambda value: value == "")),
    "read_table": (read_table, Sort("f 0: way to end", ParseError, None, lambda value: value == "")), "read_marking": (read_marking, PROGRAM, MARKING_TEXT),
}
ORDERED = {name: (call, sorts) for name, (call, *sorts) in CALLS.items()}


class Each(unittest.TestCase):
    def fails(self, name, arguments, at):
        """The call fails by the argument with this index, and keeps just this value."""
        call, sorts = ORDERED[name]
        with self.assertRaises(Exception, msg=(name, arguments)) as caught:
            call(*arguments)
        self.assertIs(type(caught.exception), sorts[at].error, (name, arguments, caught.exception))
        if sorts[at].kept is not None:
            self.assertIs(getattr(caught.exception, sorts[at].kept), arguments[at])

    def test_right_arguments(self):
        for name, (call, sorts) in ORDERED.items():
            call(*[sort.right for sort in sorts])

    def test_one_wrong_argument(self):
        for name, (_, sorts) in ORDERED.items():
            for at, sort in enumerate(sorts):
                wrong = sort.wrong()
                self.assertGreater(len(wrong), 60, name)
                for value in wrong:
                    arguments = [other.right for other in sorts]
                    arguments[at] = value
                    self.fails(name, arguments, at)

    def test_the_first_one_of_two_wrong_arguments(self):
        for name, (_, sorts) in ORDERED.items():
            for first, second in combinations(range(len(sorts)), 2):
                for number, value in enumerate(sorts[first].wrong()):
                    others = sorts[second].wrong()
                    arguments = [sort.right for sort in sorts]
                    arguments[first], arguments[second] = value, others[number % len(others)]
                    self.fails(name, arguments, first)

    def test_all_wrong_arguments(self):
        for name, (_, sorts) in ORDERED.items():
            for shift in range(20):
                arguments = [sort.wrong()[(shift * 7 + at) % len(sort.wrong())] for at, sort in enumerate(sorts)]
                self.fails(name, arguments, 0)

    def test_no_wrong_argument_is_changed(self):
        for name, (call, sorts) in ORDERED.items():
            for at, sort in enumerate(sorts):
                for value in [value for value in sort.wrong() if isinstance(value, (dict, list))]:
                    before = frozen(value)
                    arguments = [other.right for other in sorts]
                    arguments[at] = value
                    self.fails(name, arguments, at)
                    self.assertEqual(frozen(value), before)


class Judged(unittest.TestCase):
    def test_each_value_gets_an_answer(self):
        for value in every_kind() + MORE:
            for judge in (is_outcome, is_need, is_fact, lambda item: is_table(LOG, item), lambda item: is_closed(LOG, item),
                          lambda item: is_denial(LOG, ("main", 9), WAY, item), lambda item: is_lines(LOG, item),
                          lambda item: is_shown(LOG, ("main", 0), WAY, item), MARKING.is_lower, Facts.done().is_within,
                          LOG.__contains__, RUN.__contains__, Facts.done().__contains__, Table(LOG).__contains__, LINES.__contains__,
                          lambda item: is_context(LOG, item), lambda item: is_event(LOG, item), lambda item: is_closed_set(LOG, "main", TABLE, item),
                          lambda item: is_never_paper(LOG, "main", ("stop", ("main", 2)), item), STANDINGS.__contains__, RIGHT.__contains__, RIGHT.is_alike,
                          lambda item: is_alike_paper(LOG, "main", MARKING, item), lambda item: is_trail(LOG, "main", item),
                          lambda item: is_event_paper(LOG, "main", ("ended", ("main", 11)), item),
                          lambda item: is_stand_paper(LOG, "main", "main", item), A_PROJECT.__contains__):
                self.assertIs(type(judge(value)), bool)
            self.assertIn(RUN.first(value), (None,))
            for thing in (LOG, RUN, MARKING, Marked(RUN, MARKING), Facts.ask("a"), Table(LOG), LINES, STANDINGS, RIGHT, TRAIL, A_PROJECT):
                self.assertIs(type(thing == value), bool)
                self.assertIs(thing != value, not thing == value)


class Then(unittest.TestCase):
    def test_errors_behind_then_come_only_if_no_other_applies(self):
        for make, kind in (
            (lambda: Program.from_lines("f: done", "f: done", "f"), "ParseError"),
            (lambda: LOG.with_function("rest", Code.leaf("rest")), "InvalidWord"),
            (lambda: LOG.with_function("f", None), "InvalidOperation"),
            (lambda: LOG.with_function("f", Code.leaf("rest")), "InvalidProgram"),
            (lambda: LOG.without("f"), "UnknownName"),
            (lambda: LOG.without("main"), "InvalidProgram"),
            (lambda: Marking.uniform(None, "none"), "InvalidProgram"),
            (lambda: MARKING.with_mark(("main", 0), "none"), "UnknownPlace"),
            (lambda: Facts((WAY,), (WAY,)), "InvalidFact"),
            (lambda: denial(LOG, ("main", 0), ("back",)), "InvalidFact"),
            (lambda: denial(LOG, ("main", 0), WAY), "InvalidOperation"),
            (lambda: shown(LOG, ("main", 9), WAY), "InvalidOperation"),
            (lambda: Code.read("then rest"), "ParseError"),
            (lambda: never_paper(LOG, "main", ("come", ("main", 0))), "InvalidOperation"),
            (lambda: never_paper(LOG, "nope", ("come", ("main", 0))), "UnknownName"),
            (lambda: trail_to(LOG, "main", ("stop", ("main", 2))), "InvalidOperation"),
            (lambda: run_to(LOG, "main", ("stop", ("main", 2))), "InvalidOperation"),
            (lambda: alike_paper(LOG, "main", Marking.uniform(LOG, "jump")), "InvalidOperation"),
            (lambda: alike_paper(LOG, "main", Marking.uniform(FLIP, "copy")), "InvalidMarking"),
            (lambda: Trail(LOG, "main", (), ()), "InvalidLines"),
            (lambda: RIGHT.against(("main", 0), "none"), "UnknownPlace"),
            (lambda: watched(watched(HELD, ("main", 1)), ("main", 1)), "InvalidProgram"),
            (lambda: can_be_lost(HELD, "nope", ("main", 0)), "UnknownName"),
            (lambda: event_in(HELD, "main", ("main", 0), "none"), "UnknownPlace"),
            (lambda: tester("f", (("a",), END), ("b",), loop="rest"), "InvalidOperation"),
            (lambda: tester("f", ((), ("rest", 1)), (), loop="rest"), "InvalidFact"),
            (lambda: exchanged(FLIP, "coin", "nope"), "UnknownName"),
            (lambda: read_marking(LOG, "main 9"), "ParseError"),
            (lambda: read_marking(LOG, "main 0 copy"), "InvalidMarking"),
            (lambda: read_program("f: rest\nf: done\ng"), "ParseError"),
            (lambda: read_program("f: rest"), "InvalidProgram"),
        ):
            with self.assertRaises(Exception) as caught:
                make()
            self.assertEqual(type(caught.exception).__name__, kind)

    def test_codes_stay_as_they_were(self):
        with self.assertRaises(InvalidCode):
            Code.leaf("hold")


class Unchanged(unittest.TestCase):
    def picture(self):
        """All that objects tell of themselves."""
        table = Table(FLIP)
        lines = shown(FLIP, ("main", 0), WAY)
        run, marking = Run(FLIP, "main"), Marking.uniform(FLIP, "move")
        marked = Marked(run, marking)
        standings, marks, trail = Standings(FLIP, "main"), Marks(FLIP, "main"), trail_to(FLIP, "main", ("again", ("main", 6)))
        return (standings.come, standings.ended, standings.events, standings.never, marks.least.marks, marks.right(("main", 5)), trail.lines, trail.points, trail.told(),
                run_to(FLIP, "main", ("ended", ("main", 6))).row, held_events(FLIP, "main"), stand_paper(FLIP, "coin", "main"), write_table(table.rows), FLIP.functions, FLIP.lines, FLIP.labels, FLIP.clauses, run.row, run.end, run.places, marking.marks, marked.broken, marked.costs,
                table.rows, list(table.each()), lines.lines, lines.height)

    def test_no_call_changes_a_program(self):
        before = self.picture()
        facts = {place: list(told) for place, told in least_table(FLIP).items()}
        table = Table(FLIP)
        table.assuming(("coin", 0), WAY).joined(table).common(table)
        for place in table.rows:
            facts_made(FLIP, place, table.rows)
        lines = shown(FLIP, ("main", 0), WAY)
        lines.followed_by(lines).trimmed()
        list(all_runs(FLIP, "main", 3))
        for event in Standings(FLIP, "coin").events:
            event_paper(FLIP, "coin", event)[1:]
            self.assertTrue(is_event_paper(FLIP, "coin", event, event_paper(FLIP, "coin", event)))
        Marks(FLIP, "main").mended(Marking.uniform(FLIP, "place"))
        project = Project.holding(FLIP)
        project.put("coin", Code.leaf("done"))
        project.trial(("remove", "main"), ("put", "main", Code.leaf("done")))
        exchanged(FLIP, "coin", "main")
        paper = never_paper(FLIP, "main", ("stop", ("coin", 0)))
        self.assertTrue(is_closed_set(FLIP, "main", *paper))
        FLIP | LOG.with_function("coin", FLIP["coin"]).with_function("main", FLIP["main"])
        self.assertEqual(self.picture(), before)
        self.assertEqual({place: list(told) for place, told in least_table(FLIP).items()}, facts)

    def test_what_is_handed_out_is_not_shared(self):
        table = Table(FLIP)
        for told in (FLIP.functions, table.rows, Marking.uniform(FLIP, "move").marks, least_table(FLIP), denial(FLIP, ("coin", 0), WAY), Marks(FLIP, "main").least.marks, held_events(FLIP, "main"), Project.holding(FLIP).functions,
                     never_paper(FLIP, "main", ("stop", ("coin", 0)))[0], alike_paper(FLIP, "main", Marking.uniform(FLIP, "copy"))[0],
                     Marked(Run(FLIP, "main"), Marking.uniform(FLIP, "copy")).costs):
            told.clear()
        self.assertEqual(len(FLIP.functions), 2)
        self.assertEqual(len(table.rows), 9)
        self.assertEqual(len(least_table(FLIP)), 9)
        self.assertEqual(len(Table(FLIP).rows), 9)

    def test_equal_calls_return_equal_results(self):
        again = Program.from_lines(*FLIP.lines)
        self.assertEqual(self.picture(), self.picture())
        for call in (least_table, Table, lambda program: Run(program, "main"), lambda program: shown(program, ("main", 0), WAY),
                     lambda program: Marking.uniform(program, "jump")):
            self.assertEqual(call(FLIP), call(FLIP))
            self.assertEqual(call(FLIP), call(again))


if __name__ == "__main__":
    unittest.main()
