"""How a trail to an event is woven from the least closed set.

A key stands for a point: ("come", standing), ("ended", standing), or ("work", standing of the handle),
as a work can be come to in one inner context from several outer ones.
"""

from restwise.around.choices import Choices
from restwise.need.lines import lines_to
from restwise.need.uses import END_WAY

RANKS = {"come": 0, "work": 1, "ended": 2}


class Weaver:
    """Weaves trails for a program and a first function."""

    def __init__(self, program, name):
        self.choices = Choices(program, name)
        self.ground = self.choices.ground
        self.form = program.shape
        self.reasons = self.choices.spread.reasons
        self.turns = {standing: turn for turn, standing in enumerate(self.choices.spread.queue)}

    def key_of(self, standing):
        """The key of the point at which a standing is come to."""
        is_work = standing[0] in self.form.works
        return ("work", self.reasons[standing][1]) if is_work else ("come", standing)

    def parts_of(self, key):
        """The keys of the points and the items of the facts that the point of a key uses."""
        word, standing = key
        if word == "work":
            return [self.key_of(standing)], self._given_facts(standing)
        if word == "ended":
            return self._parts_of_ended(standing)
        reason = self.reasons[standing]
        if reason[0] == "start":
            return [], []
        number, at = standing
        if reason[0] == "rest":
            parts = self.form.followings[reason[2][0]]
            return ([self.key_of(reason[1]), ("ended", reason[2])],
                    [(part, END_WAY) for part in parts[:parts.index(number)]])
        if reason[0] == "from":
            return [self.key_of(reason[1])], []
        if reason[0] == "then":
            first = self.form.below[reason[1][0]][0]
            return [self.key_of(reason[1])], [self.choices.way(first, ("end",), at)]
        handle = reason[1][0]
        outcome = ("ask", self.form.homes[number][1]) if reason[0] == "clause" else ("end",)
        way = self.choices.way(self.form.below[handle][0], outcome, self.ground.inner(handle, at))
        return [("work", reason[1])], [way]

    def _given_facts(self, standing):
        """For each label of a handle that is given in its work a way of its clause to a rest."""
        handle, at = standing
        ways = [self.choices.rest_way(top, at, False) for top in self.form.sides[handle].values()]
        return [way for way in ways if way is not None]

    def _parts_of_ended(self, standing):
        rest, at = standing
        handle = self.form.homes[self.form.owners[rest]][0]
        pair = self.choices.pair_for(rest, at)
        facts = [pair]
        for way in self.choices.back_ways(handle, pair, at).values():
            facts = facts + [way, self.choices.back_of(way)]
        return [("work", (handle, at)), self.key_of(standing)], facts + [self.choices.end_behind(handle, pair, at)]

    def all_parts(self, keys):
        """A dict from these keys and all that lead to them to what they use, each behind those that it uses."""
        found = {}
        ahead = list(keys)
        while ahead:
            key = ahead.pop()
            if key not in found:
                found[key] = self.parts_of(key)
                ahead.extend(found[key][0])
        ranks = sorted([(self.turns[standing], RANKS[word], word) for word, standing in found])
        order = [(word, self.choices.spread.queue[turn]) for turn, _, word in ranks]
        return {key: found[key] for key in order}

    def row_of(self, key):
        """The word, the place and the context of the point of a key."""
        word, (number, at) = key
        if word == "work":
            number, at = self.form.below[number][0], self.ground.inner(number, at)
        told = "ended" if word == "ended" else "come"
        return told, self.form.spots[number], self.ground.context_told(at)


def _last_parts(weaver, event, standing):
    """What the point behind all others uses, which an again or a drop has; None for other events."""
    if event[0] == "again":
        return ("ended", standing), weaver.choices.again_items(standing[0])
    if event[0] == "drop":
        return weaver.key_of(standing), [weaver.choices.way(standing[0], ("end",), standing[1])]
    return None


def woven(program, name, event):
    """The lines and the points of a trail to an event that can happen."""
    weaver = Weaver(program, name)
    standing = weaver.choices.standing_for(event)
    last = _last_parts(weaver, event, standing)
    is_ended = event[0] in ("ended", "behind")
    key = last[0] if last is not None else ("ended", standing) if is_ended else weaver.key_of(standing)
    parts = weaver.all_parts([key])
    rows = [weaver.row_of(one) + pair for one, pair in parts.items()]
    if last is not None:
        rows.append((event[0], event[1], weaver.ground.context_told(standing[1]), [key], last[1]))
    items = [item for row in rows for item in row[4]]
    lines, indices = lines_to(program, items) if items else ((), {})
    numbers = {one: index for index, one in enumerate(parts)}
    return lines, tuple([(word, place, context, tuple([numbers[one] for one in ahead]),
                          tuple([indices[item] for item in facts])) for word, place, context, ahead, facts in rows])
