"""No index, number or depth that the document lets makes the program slow, or deeper than a few hundred calls."""

import sys
import time
import unittest

from restwise.base.codes import Code
from restwise.base.programs import Program, inlined, renamed
from restwise.need.families import END, Facts
from restwise.need.lines import Lines, is_lines, round_of, shown
from restwise.need.rules import facts_made, goes_back, is_table, least_table
from restwise.need.tables import Table, denial, is_closed, is_denial
from restwise.run.marked import Marked, Marking
from restwise.run.runs import Run, all_runs
from tests import plain_rules
from tests.making import Chance
from tests.test_rules import possible_facts

SECONDS = 6
WAY = ((), END)


def large(seed):
    """A program of six functions of about forty nodes each, with three labels and up to eight handles."""
    return Chance(seed, labels=("a", "b", "c"), names=("f", "g", "h", "i", "j", "main"), doubling=0.1).program(40)


def chain():
    """Functions of forty nodes each, one behind the other, with eight handles and three labels."""
    handle = "handle a: then ask a then ask b ask c done then ask b rest"
    functions = {"f": "then " * 18 + " ".join(["ask a"] * 10 + ["ask b"] * 9),
                 "g": f"then {handle} then call f call f", "h": f"then {handle} then call g {handle}",
                 "i": f"then {handle} then call h {handle}", "j": f"then call i then {handle} call h",
                 "main": f"then {handle} handle a b c: call j done rest then ask a rest test rest then ask b rest"}
    return Program({name: Code.read(text) for name, text in functions.items()})


def full():
    """Six functions of just forty nodes that call one another, and ask in all orders."""
    asks = ["test then ask a ask b then ask b then ask c ask a", "test then ask c ask b then ask a ask c", "test call {} call {}"]
    functions = {}
    names = ("f", "g", "h", "i", "j", "main")
    for number, name in enumerate(names):
        one, two = names[(number + 1) % 6], names[(number + 2) % 6]
        text = "then " + asks[0] + " then " + asks[1] + " then " + asks[2].format(one, two) + " then " + asks[1] + " test done ask a"
        functions[name] = Code.read(text)
    return Program(functions)


class Fast(unittest.TestCase):
    def setUp(self):
        self.begun = time.monotonic()
        self.depth = sys.getrecursionlimit()
        # The tests themselves run some hundred calls deep.
        sys.setrecursionlimit(400)

    def tearDown(self):
        sys.setrecursionlimit(self.depth)
        self.assertLess(time.monotonic() - self.begun, SECONDS)

    def run_of(self, *lines, world=(), **more):
        run = Run(Program.from_lines(*lines), "main", world, moves=20000, **more)
        self.assertEqual((run.moves, run.end), (20000, ("cut",)))
        return run

    def test_deep_piles(self):
        self.run_of("main: call main")
        self.run_of("main: then call main step s")
        self.run_of("main: hold call main")
        self.run_of("main: handle a: call main done rest")

    def test_many_asks_on_deep_piles(self):
        self.run_of("f: then ask a then call f step s", "main: handle a: call f done rest")
        self.run_of("f: then ask a hold call f", "main: handle a: call f done rest")
        self.run_of("f: handle b: then ask a call f done rest", "main: handle a: call f done rest")
        self.run_of("f: handle b: hold then ask a call f done rest", "main: handle a: call f done then rest step s")
        self.run_of("f: handle a: then ask b then ask a call f done then ask b rest", "main: handle b: call f done rest")

    def test_many_copies_of_deep_piles(self):
        self.run_of("f: handle b: then ask a call f done rest", "main: handle a: call f done then rest rest")
        self.run_of("f: test ask a then call f ask a", "main: handle a: then call f call main done then rest rest", world=(False,) * 200)
        self.run_of("f: test ask a hold then call f then ask a ask a", "main: handle a: then call f call main done then rest rest",
                    world=(False,) * 200)

    def test_clauses_within_clauses(self):
        self.run_of("f: handle a: call f done then ask a rest", "main: then call f step s")
        # Each clause holds the piece with the clause ahead of it, and all are dropped or left at once.
        program = Program.from_lines("f: test ask a handle a: hold call f done then ask a rest", "main: handle a: call f done done")
        run = Run(program, "main", (False,) * 199 + (True,), moves=20000)
        self.assertEqual([event[0] for event in run].count("lost"), 199)
        run = Run(program, "f", (False,) * 199 + (True,), moves=20000)
        self.assertEqual([event[0] for event in run].count("left"), 199)

    def test_all_runs_with_twelve_tests(self):
        program = Program.from_lines("main: then call f then call f then call f then call f call loop",
                                     "f: then test done done then test done done test done done", "loop: then step s call loop")
        runs = list(all_runs(program, "main", 12))
        self.assertEqual((len(runs), {run.moves for run in runs}), (4096, {200}))

    def test_marks_of_a_long_run(self):
        program = Program.from_lines("f: then ask a call f", "main: handle a: call f done rest")
        run = Run(program, "main", moves=20000)
        marked = Marked(run, Marking.uniform(program, "copy"))
        self.assertEqual(marked.deeds, len(run) * 3 // 2)

    def check_tables(self, program):
        table = least_table(program)
        self.assertTrue(is_closed(program, table))
        self.assertTrue(Table(program).is_least())
        for place in list(table)[::8]:
            self.assertEqual(facts_made(program, place, table), table[place])
        for rest in program.rests[:6]:
            goes_back(program, rest, table)
        most = {place: Facts(*[tuple(facts) for facts in possible_facts(program, place)]) for place in table}
        self.assertTrue(is_table(program, most) and is_closed(program, most))
        places = list(table)
        more = Table(program).assuming(places[3], ((), ("ask", "a"))).joined(Table(program).assuming(places[-3], ((), ("ask", "b"))))
        self.assertTrue(Table(program).is_within(more) and more.common(Table(program)) == Table(program))
        for place in places[::5]:
            if not table[place].covers(WAY):
                self.assertTrue(is_denial(program, place, WAY, denial(program, place, WAY)))

    def check_lines(self, program):
        best = None
        for place, facts in list(least_table(program).items())[::3]:
            for fact in facts:
                lines = shown(program, place, fact)
                self.assertEqual(lines.height, round_of(program, place, fact))
                best = lines if best is None or len(lines) > len(best) else best
        many = best
        while len(many) + len(best) <= 4000:
            many = many.followed_by(best)
        self.assertTrue(is_lines(program, many.lines))
        self.assertEqual(Lines(program, many.lines).trimmed(), best.trimmed())

    def test_tables_of_large_programs(self):
        for program in (chain(), full()):
            self.check_tables(program)

    def test_tables_of_large_random_programs(self):
        for seed in (0, 4):
            self.check_tables(large(seed))

    def test_lines_of_large_programs(self):
        for program in (chain(), full()):
            self.check_lines(program)

    def test_lines_of_a_large_random_program(self):
        self.check_lines(large(1))

    def test_lines_of_a_great_height(self):
        functions = {name: Code.read("hold " * 38 + f"call {called}") for name, called in zip("abcde", "bcdef")}
        program = Program({**functions, "f": Code.read("hold " * 39 + "done")})
        lines = shown(program, ("a", 0), WAY)
        self.assertEqual((len(lines), lines.height, round_of(program, ("a", 0), WAY)), (235, 235, 235))
        self.assertEqual(lines.trimmed(), lines)

    def test_rests_that_follow_one_another(self):
        clause = "then rest test done rest"
        while len(clause.split()) + 6 < 37:
            clause = f"then test rest rest {clause}"
        program = Program.from_lines(f"main: handle a: ask a done {clause}")
        table = least_table(program)
        for rest in program.rests:
            self.assertEqual(goes_back(program, rest, table), plain_rules.goes_back(program, table, rest))

    def test_programs_made_of_large_ones(self):
        for program in (chain(), full()):
            labels = {label: label for label in program.labels}
            self.assertEqual(renamed(program, functions={name: name for name in program}, labels=labels, steps={}), program)
            self.assertEqual((program | program) & program, program)
        program = Program.from_lines("f: " + "hold " * 38 + "done", "main: hold call f")
        self.assertEqual(len(inlined(program, ("main", 1))["main"]), 40)


if __name__ == "__main__":
    unittest.main()
