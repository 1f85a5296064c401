"""The points of trails: by which row of the table a point stands, and what it tells.

A point that has been judged is a tuple (word, number, context, context ahead): with numbers in the place of places, and
for the work of a handle the context of the point of the handle. A fact is an item, as told in `restwise.need.uses`.
"""

from restwise.around.sets import context_number, is_context_of
from restwise.base.words import is_integer
from restwise.need.families import END
from restwise.need.makings import level_in
from restwise.need.rules import is_followed
from restwise.need.uses import BACK, END_WAY

WORDS = ("come", "ended", "again", "drop")


def _is_indices(value, many):
    """Whether the value is a tuple of integers from 0 that are below this number."""
    return isinstance(value, tuple) and all([is_integer(index) and 0 <= index < many for index in value])


class PointJudge:
    """Judges the points of a trail one by one, by the items that the lines tell."""

    def __init__(self, ground, start, items):
        self.ground = ground
        self.form = ground.form
        self.start = start
        self.told_items = items
        self.judged = []

    def takes(self, value):
        """Whether the value is the next point; then it is kept."""
        if not isinstance(value, tuple) or len(value) != 5:
            return False
        word, place, context, ahead, facts = value
        if not isinstance(word, str) or word not in WORDS or not self.form.has_place(place):
            return False
        if not is_context_of(self.form, context):
            return False
        if not _is_indices(ahead, len(self.judged)) or not _is_indices(facts, len(self.told_items)):
            return False
        number, at = self.form.numbers[place], context_number(self.ground, context)
        points = [self.judged[index] for index in ahead]
        used = [self.told_items[index] for index in facts]
        if not self._is_right(word, number, at, points, used):
            return False
        is_work = word == "come" and number in self.form.works
        self.judged.append((word, number, at, points[0][2] if is_work else None))
        return True

    def _is_right(self, word, number, at, points, used):
        if word == "come":
            return self._is_come(number, at, points, used)
        if word == "ended":
            return self._is_ended(number, at, points, used)
        if len(points) != 1:
            return False
        if word == "again":
            return points[0][:3] == ("ended", number, at) and self._is_again(number, used)
        is_top = number in self.form.homes and points[0][:3] == ("come", number, at)
        return is_top and len(used) == 1 and self._is_way(used[0], number, END, at)

    def _is_way(self, item, number, outcome, at):
        """Whether an item is a way of the node to this outcome that is had in the context."""
        own, mask, other = item[1]
        return item[0] == number and own == 0 and other == outcome and self._is_given(mask, at)

    def _is_rest_way(self, item, number, at):
        """Whether an item is a way of the node to some rest that is had in the context."""
        own, mask, other = item[1]
        return item[0] == number and own == 0 and other[0] == "rest" and self._is_given(mask, at)

    def _is_given(self, mask, at):
        given = self.ground.given_masks[at]
        return mask | given == given

    def _is_come(self, number, at, points, used):
        if points == []:
            return (number, at, used) == (self.start, 0, [])
        word, upper, around, ahead = points[0]
        if word != "come":
            return False
        if self.form.works.get(number) == upper:
            return len(points) == 1 and self._is_inner(upper, around, at, used)
        if ahead is not None and self.form.above[number] == self.form.above[upper]:
            return len(points) == 1 and at == ahead and self._is_behind_work(number, upper, around, used)
        return at == around and self._is_in_same(number, at, upper, points, used)

    def _is_inner(self, handle, around, at, used):
        """Whether this is a context of the work of the handle, with the facts for what is given."""
        sides = self.form.sides[handle]
        inner = self.ground.met_contexts[at]
        own = [triple for triple in inner if triple[0] in sides]
        if [triple for triple in inner if triple[0] not in sides] != self._beyond(around, sides):
            return False
        if [label for label, _, _ in own] != list(sides) or any([other != handle for _, other, _ in own]):
            return False
        given = [sides[label] for label, _, is_given in own if is_given]
        if len(used) != len(given):
            return False
        return all([self._is_rest_way(item, top, around) for item, top in zip(used, given)])

    def _beyond(self, at, sides):
        return [triple for triple in self.ground.met_contexts[at] if triple[0] not in sides]

    def _is_behind_work(self, number, work, inner, used):
        """Whether a clause or the last part is come to by one way of the work."""
        outcome = ("ask", self.form.homes[number][1]) if number in self.form.homes else END
        return number != work and len(used) == 1 and self._is_way(used[0], work, outcome, inner)

    def _is_in_same(self, number, at, upper, points, used):
        """Whether the node is come to in the context of the one that has it, or calls it."""
        node = self.form.forms[upper]
        below = self.form.below[upper]
        if node[0] == "then" and number == below[1]:
            return self._is_second(number, at, points, used)
        if len(points) != 1 or used != []:
            return False
        if node[0] == "call":
            return number == self.form.starts[node[1]]
        if node[0] == "then":
            return number == below[0]
        return node[0] in ("test", "hold") and number in below

    def _is_second(self, number, at, points, used):
        """Whether the second child of a then is come to by a way of the first child, or by an ended rest in it."""
        if len(points) == 1:
            return len(used) == 1 and self._is_way(used[0], self.form.below[points[0][1]][0], END, at)
        if len(points) != 2 or points[1][:1] + points[1][2:3] != ("ended", at):
            return False
        parts = self.form.followings[points[1][1]]
        if number not in parts:
            return False
        return used == [(part, END_WAY) for part in parts[:parts.index(number)]]

    def _is_ended(self, rest, at, points, used):
        owner = self.form.owners.get(rest)
        if owner is None or len(points) != 2 or used == []:
            return False
        handle, label = self.form.homes[owner]
        work, inner = self.form.below[handle][0], points[0][2]
        if points[0] != ("come", work, inner, at) or points[1][:3] != ("come", rest, at):
            return False
        number, (own, mask, outcome) = used[0]
        if number != work or own != self.ground.bits[label]:
            return False
        return self._is_met(handle, mask, inner) and self._is_end_used(handle, mask, outcome, at, used[1:])

    def _is_met(self, handle, mask, inner):
        """Whether the labels of a need are given, but for those of the handle that are back."""
        sides = self.form.sides[handle]
        own = sum([self.ground.bits[label] for label in sides if level_in(mask, self.ground.bits[label]) == 3])
        return self._is_given((mask & self.ground.low) - own, inner)

    def _is_end_used(self, handle, mask, outcome, at, used):
        """Whether the clauses of all back labels of the handle can come back, and what comes in the end has an end."""
        sides = self.form.sides[handle]
        tops = [top for label, top in sides.items() if level_in(mask, self.ground.bits[label]) == 3]
        if len(used) != 2 * len(tops) + 1:
            return False
        for index, top in enumerate(tops):
            way, back = used[2 * index], used[2 * index + 1]
            if not self._is_rest_way(way, top, at):
                return False
            if back != (self.form.start_of(top) + way[1][2][1], BACK):
                return False
        if outcome == END:
            return self._is_way(used[-1], self.form.below[handle][1], END, at)
        return outcome[0] == "ask" and outcome[1] in sides and self._is_way(used[-1], sides[outcome[1]], END, at)

    def _is_again(self, rest, used):
        parts = self.form.followings[rest]
        ahead = len(used) - 1
        if not 0 <= ahead < len(parts) or used[:ahead] != [(part, END_WAY) for part in parts[:ahead]]:
            return False
        number, (own, mask, outcome) = used[ahead]
        return number == parts[ahead] and (own, mask, outcome[0]) == (0, 0, "rest")


def events_told(ground, word, number, at):
    """The events that a point tells, ascending."""
    place = ground.form.spots[number]
    node = ground.form.forms[number]
    found = [(word, place)]
    if word == "come" and node[0] == "rest":
        found.append(("rest", place))
    if word == "come" and node[0] == "ask":
        handle = ground.handle_for(node[1], at)
        found.append(("stop", place) if handle is None else ("ask", place, ground.form.spots[handle]))
    if word == "ended" and is_followed(ground.form, number):
        found.append(("behind", place))
    return tuple(sorted(found))
