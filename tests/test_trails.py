"""[12.1], [12.2]: trails, compared with a plain reading of the table of points."""

import random
import unittest

from restwise.around.shown import trail_to
from restwise.around.standings import Standings
from restwise.around.trails import MAX_POINTS, Trail, is_trail
from restwise.base.programs import Program
from restwise.errors import InvalidLines, InvalidNumber, InvalidProgram, UnknownName
from restwise.need.lines import shown
from tests.making import EXAMPLES, FLIP, INNER, LOG, OUTER, random_programs
from tests.plain_trails import PlainTrail, events_at
from tests.test_closed_sets import contexts_of
from tests.test_standings import BY_HAND
from tests.values import every_kind

WORDS = ("come", "ended", "again", "drop")
MORE = (
    ("f: then ask a ask b", "main: handle a b: call f step l then test rest then rest done step p test rest done"),
    ("f: test ask b then ask b test ask b done", "main: handle b: then call f handle a: ask a done then rest then done rest done test then rest step p done"),
    ("f: then ask a then ask a ask b", "main: handle a b: call f done then test rest done test rest then rest done then rest done"),
)


def programs():
    found = list(EXAMPLES.values()) + [Program.from_lines(*lines) for lines in BY_HAND + MORE]
    for seed in range(60):
        found += random_programs(seed, 1, 6 + seed % 20, labels=("a", "b", "c")[:1 + seed % 3], doubling=0.6)
    return found


def trails(chance, many):
    """Trails to random events of many programs, with their programs and names."""
    for program in programs():
        for name in program:
            events = Standings(program, name).events
            seldom = [event for event in events if event[0] in ("ended", "behind", "again", "drop")]
            for event in chance.sample(events, min(many, len(events))) + chance.sample(seldom, min(2, len(seldom))):
                yield program, name, event, trail_to(program, name, event)


def changed(chance, program, point, many, lines):
    """The point with one item exchanged, one too few, one too many."""
    word, place, context, ahead, facts = point
    form = chance.randrange(9)
    if form == 0:
        return (chance.choice(WORDS), place, context, ahead, facts)
    if form == 1:
        return (word, chance.choice([(place[0], index) for index in range(len(program[place[0]]))]), context, ahead, facts)
    if form == 2:
        return (word, place, contexts_of(chance, program, 1)[0], ahead, facts)
    if form == 3:
        return (word, place, tuple([(label, handle, given != (chance.random() < 0.5)) for label, handle, given in context]), ahead, facts)
    if form == 4:
        return (word, place, context, ahead[:-1] if ahead and chance.random() < 0.5 else ahead + (chance.randrange(many),), facts)
    if form == 5:
        return (word, place, context, tuple([chance.randrange(many) for _ in ahead]), facts)
    if form == 6 and lines:
        return (word, place, context, ahead, tuple([chance.randrange(len(lines)) for _ in facts]))
    if form == 7:
        return (word, place, context, ahead, facts[:-1] if facts and chance.random() < 0.5 else facts + (chance.randrange(len(lines) + 1),))
    return (word, place, context, ahead[::-1], facts[::-1])


class Judged(unittest.TestCase):
    def compare(self, program, name, lines, points):
        right = PlainTrail(program, name, lines, points).is_right()
        self.assertEqual(is_trail(program, name, (lines, points)), right, (program.lines, name, lines, points))
        return right

    def test_right_trails(self):
        words = {}
        for program, name, event, trail in trails(random.Random(1), 8):
            self.assertTrue(self.compare(program, name, trail.lines, trail.points))
            self.assertIn(event, trail.told())
            for index, point in enumerate(trail.points):
                self.assertEqual(trail.events_at(index), events_at(program, point))
                words[point[0]] = words.get(point[0], 0) + 1
        for word in WORDS:
            self.assertGreater(words[word], 12, words)

    def test_trails_with_one_point_changed(self):
        chance = random.Random(2)
        right = wrong = 0
        for program, name, _, trail in trails(chance, 5):
            for _ in range(12):
                points = list(trail.points)
                at = chance.randrange(len(points)) if chance.random() < 0.6 else len(points) - 1
                points[at] = changed(chance, program, points[at], len(points), trail.lines)
                is_right = self.compare(program, name, trail.lines, tuple(points))
                right, wrong = right + is_right, wrong + (not is_right)
        self.assertGreater(right, 300)
        self.assertGreater(wrong, 3000)

    def test_points_too_few_exchanged_and_doubled(self):
        chance = random.Random(3)
        for program, name, _, trail in trails(chance, 3):
            points = trail.points
            at = chance.randrange(len(points))
            self.compare(program, name, trail.lines, points[:at] + points[at + 1:] or points)
            self.assertTrue(self.compare(program, name, trail.lines, points + points[at:at + 1]))
            other = chance.randrange(len(points))
            mixed = list(points)
            mixed[at], mixed[other] = mixed[other], mixed[at]
            self.compare(program, name, trail.lines, tuple(mixed))
            if at:
                self.compare(program, name, trail.lines, points[:at])
            self.assertEqual(is_trail(program, name, (trail.lines[:-1], points)), not trail.lines or
                             (len(trail.lines) > 1 and PlainTrail(program, name, trail.lines[:-1], points).is_right()))

    def test_labels_that_are_not_given_may_be_given_in_truth(self):
        point = ("come", ("main", 1), (("get", ("main", 0), False),), (0,), ())
        self.assertTrue(is_trail(LOG, "main", ((), (("come", ("main", 0), (), (), ()), point))))
        given = ("come", ("main", 1), (("get", ("main", 0), True),), (0,), ())
        self.assertFalse(is_trail(LOG, "main", ((), (("come", ("main", 0), (), (), ()), given))))
        lines = shown(LOG, ("main", 9), ((), ("rest", 11))).lines
        with_fact = given[:4] + ((len(lines) - 1,),)
        self.assertTrue(is_trail(LOG, "main", (lines, (("come", ("main", 0), (), (), ()), with_fact))))

    def test_a_work_with_two_points_in_one_context(self):
        # The work of the inner handle is come to in one inner context from two outer ones.
        program = Program.from_lines("f: handle a: ask a done then rest step p", "main: test call f handle a: call f done rest")
        contexts = Standings(program, "main").contexts(("f", 0))
        self.assertEqual((len(contexts), Standings(program, "main").contexts(("f", 1))), (2, ((("a", ("f", 0), True),),)))
        clauses = [(rest, context) for rest, context in Standings(program, "main").ended if rest == ("f", 4)]
        self.assertEqual(len(clauses), 2)
        trail = trail_to(program, "main", ("behind", ("f", 4)))
        self.assertTrue(PlainTrail(program, "main", trail.lines, trail.points).is_right())

    def test_values_of_other_forms(self):
        trail = trail_to(INNER, "main", ("ended", ("in", 4)))
        lines, points = trail.lines, trail.points
        first = points[0]
        self.assertTrue(is_trail(INNER, "main", (lines, points)))
        for value in ((lines,), [lines, points], (list(lines), points), (lines, list(points)), (points, lines), (lines, points, ()), (lines, ()), (lines[1:], points),
                      (None, points), (lines, None), (lines, (list(first),) + points[1:]), (lines, (first + (1,),) + points[1:]), (lines, (first[:4],) + points[1:]),
                      (lines, (("come", ["main", 0]) + first[2:],) + points[1:]), (lines, (("come", ("main", False)) + first[2:],) + points[1:]),
                      (lines, (first[:2] + ([],) + first[3:],) + points[1:]), (lines, (first[:3] + ([], ()),) + points[1:]), (lines, (first[:3] + ((), []),) + points[1:]),
                      (lines, points[:1] + (points[1][:3] + ((False,),) + points[1][4:],) + points[2:]), (lines, points[:1] + (points[1][:3] + ((-1,),) + points[1][4:],) + points[2:]),
                      (lines, (first,) + (None,)), ((), points), trail, None, {}, "come"):
            self.assertFalse(is_trail(INNER, "main", value), value)
        for value in every_kind():
            self.assertFalse(is_trail(INNER, "main", value))
            self.assertFalse(is_trail(INNER, "main", (lines, value)))
            self.assertFalse(is_trail(INNER, "main", (value, points)))
            self.assertFalse(is_trail(INNER, "main", (lines, points[:-1] + (value,))))
        self.assertFalse(is_trail(INNER, "in", (lines, points)))
        self.assertFalse(is_trail(OUTER, "main", (lines, points)))
        self.assertTrue(is_trail(Program.from_lines(*INNER.lines), "main", (lines, points)))

    def test_lines_that_are_none_spoil_a_trail(self):
        trail = trail_to(LOG, "main", ("behind", ("main", 11))) if ("behind", ("main", 11)) in Standings(LOG, "main") else trail_to(LOG, "main", ("ended", ("main", 11)))
        place, fact, uses = trail.lines[-1]
        self.assertFalse(is_trail(LOG, "main", (trail.lines + ((place, fact, uses + (0,)),), trail.points)))
        self.assertTrue(is_trail(LOG, "main", (trail.lines + ((place, fact, uses),), trail.points)))
        self.assertFalse(is_trail(LOG, "main", (((place, fact, uses),) * 2, trail.points)))

    def test_many_points(self):
        start = ("come", ("main", 0), (), (), ())
        self.assertTrue(is_trail(LOG, "main", ((), (start,) * MAX_POINTS)))
        self.assertFalse(is_trail(LOG, "main", ((), (start,) * (MAX_POINTS + 1))))
        self.assertEqual(len(Trail(LOG, "main", (), (start,) * MAX_POINTS).upto(MAX_POINTS - 1)), 1)


class Objects(unittest.TestCase):
    def test_upto(self):
        for program, name, event, trail in trails(random.Random(5), 3):
            for index in range(len(trail)):
                part = trail.upto(index)
                self.assertEqual(part.points[-1][:3], trail.points[index][:3])
                self.assertEqual(part.told(), trail.events_at(index))
                used = {at for point in part.points for at in point[3]}
                self.assertEqual(used, set(range(len(part) - 1)))
                facts = {at for point in part.points for at in point[4]} | {at for line in part.lines for at in line[2]}
                self.assertEqual(facts, set(range(len(part.lines))))
                places = [point[:3] for point in trail.points]
                rows = iter(places)
                self.assertTrue(all(point[:3] in rows for point in part.points))

    def test_views(self):
        trail = trail_to(INNER, "main", ("ended", ("in", 4)))
        self.assertEqual((trail.program, trail.name), (INNER, "main"))
        self.assertEqual((tuple(trail), len(trail)), (trail.points, len(trail.points)))
        self.assertEqual([trail[index] for index in range(len(trail))], list(trail.points))
        self.assertEqual(str(trail), f"{len(trail.points)} points, {len(trail.lines)} lines, ended ('in', 4)")
        self.assertEqual(str(trail.upto(0)), "1 points, 0 lines, come ('main', 0)")
        for index in (-1, len(trail), True, False, None, "0", 10 ** 60, (0,)):
            for call in (trail.upto, trail.events_at, lambda at: trail[at]):
                with self.assertRaises(InvalidNumber) as caught:
                    call(index)
                self.assertIs(caught.exception.number, index)

    def test_equality(self):
        trail = trail_to(FLIP, "main", ("again", ("main", 6)))
        again = Trail(Program.from_lines(*FLIP.lines), "main", trail.lines, trail.points)
        self.assertEqual(trail, again)
        self.assertNotEqual(trail, trail.upto(0))
        self.assertNotEqual(trail, Trail(FLIP, "main", trail.lines + trail.lines[:1], trail.points))
        self.assertNotEqual(trail.upto(0), trail_to(FLIP, "coin", ("come", ("coin", 0))))
        for value in (None, trail.points, (trail.lines, trail.points), 0, FLIP):
            self.assertFalse(trail == value)

    def test_errors_of_a_trail(self):
        trail = trail_to(FLIP, "main", ("again", ("main", 6)))
        for value in every_kind():
            with self.assertRaises(InvalidLines):
                Trail(FLIP, "main", value, trail.points)
            with self.assertRaises(InvalidLines):
                Trail(FLIP, "main", trail.lines, value)
            if not isinstance(value, Program):
                with self.assertRaises(InvalidProgram):
                    Trail(value, "nope", None, None)
        with self.assertRaises(UnknownName):
            Trail(FLIP, "nope", None, None)
        with self.assertRaises(InvalidLines):
            Trail(FLIP, "coin", trail.lines, trail.points)


if __name__ == "__main__":
    unittest.main()
