"""Which standing tells an event, and by which facts of the least table each standing is come to or ended.

Of several facts one is taken that was first there, so that lines and runs stay short.
"""

from restwise.around.spreads import spread_of
from restwise.need.families import END
from restwise.need.makings import level_in, rests_by
from restwise.need.past import earliest, past_of
from restwise.need.uses import BACK, END_WAY


class Choices:
    """The choices for one program and first function."""

    def __init__(self, program, name):
        self.spread = spread_of(program, name)
        self.ground = self.spread.ground
        self.form = program.shape
        self.past = past_of(program)

    def standing_for(self, event):
        """The first standing that tells the event, which can happen."""
        word, number = event[0], self.form.numbers[event[1]]
        if word in ("ended", "behind", "again"):
            rows = self.spread.found_ended
        else:
            rows = self.spread.reasons
        return [standing for standing in rows if standing[0] == number and self._does_tell(event, standing)][0]

    def _does_tell(self, event, standing):
        number, at = standing
        if event[0] == "drop":
            return self.ground.is_had(number, END, at)
        if event[0] not in ("ask", "stop"):
            return True
        handle = self.ground.handle_for(self.form.forms[number][1], at)
        return handle == (self.form.numbers[event[2]] if event[0] == "ask" else None)

    def way(self, number, outcome, at):
        """A way of the node to the outcome that is had in the context."""
        return earliest(self.past, number, self.ground.ways_had(number, outcome, at))

    def rest_way(self, top, at, is_back):
        """A way of a clause to a rest that is had in the context; None if there is none."""
        triples = self.ground.ways_to_rests(top, at, is_back)
        return earliest(self.past, top, triples) if triples else None

    def back_of(self, item):
        """That the rest to which this way of a clause comes goes on back."""
        number, (_, _, outcome) = item
        return self.form.start_of(number) + outcome[1], BACK

    def pair_for(self, rest, at):
        """A pair of the work by which a rest is ended in this context."""
        handle = self.form.homes[self.form.owners[rest]][0]
        return earliest(self.past, self.form.below[handle][0], self.ground.ending_pairs(rest, at))

    def back_ways(self, handle, pair, at):
        """A dict from the labels of the handle that are back in the pair to ways of their clauses to such rests."""
        mask = pair[1][1]
        return {label: self.rest_way(top, at, True) for label, top in self.form.sides[handle].items()
                if level_in(mask, self.ground.bits[label]) == 3}

    def end_behind(self, handle, pair, at):
        """A way to the end of what comes in the place of the work with the outcome of the pair."""
        outcome = pair[1][2]
        top = self.form.below[handle][1] if outcome == END else self.form.sides[handle][outcome[1]]
        return self.way(top, END, at)

    def again_items(self, rest):
        """Ways to the end of what follows a rest, and behind them one of a part to a further rest."""
        found = []
        for part in self.form.followings[rest]:
            later = rests_by(self.form, self.ground.families, part)
            if later:
                outcomes = [("rest", self.form.spots[number][1]) for number in later]
                return found + [earliest(self.past, part, [(0, 0, outcome) for outcome in outcomes])]
            found.append((part, END_WAY))
        return found
