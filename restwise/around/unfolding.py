"""How a run in which an event happens is unfolded from the least closed set and the facts by which it holds.

A plan tells how a node is run: ("item", item, behind) so that it comes to the outcome of the fact of the item, as the
rules made it of others; ("route", route, index) so that it comes to the standing of the route with the next index. An
ask has a kind: "on" if it is one of many that go on, "own" if it is the ask of a pair, "out" if it is an outcome. So an
opened handle has plans for its clauses, told by kind and label, and for its last part.

`behind` tells for the parts of a clause that follow a rest which items they have in the same plan. Copies of a piece
share the plans of its frames, so each of them does the same.
"""

from restwise.around.choices import Choices
from restwise.need.families import END
from restwise.need.uses import BACK, END_WAY, handle_slots

LAST = ("last", "")
STOP = "stop"


class Due:
    """Something that is still to be done: a node that begins, or a clause that ends, with what lies below it."""

    def __init__(self, number, below, plan, piece):
        self.number = number
        self.below = below
        self.plan = plan
        self.piece = piece


class Route:
    """Standings, each of which the next one is come to from, and what is done at the last one.

    `finish` is None if it need only begin, "rest" if its rest is to be ended, or an item.
    """

    def __init__(self, standings, behind, finish):
        self.standings_on = standings
        self.behind = behind
        self.finish = finish


class Unfolding:
    """The turns that tests take, and the moves, up to the event, or up to the limit of moves."""

    def __init__(self, program, name, event, limit):
        self.choices = Choices(program, name)
        self.form = program.shape
        self.reasons = self.choices.spread.reasons
        self.limit = limit
        self.turns = []
        self.moved = 0
        self.is_over = False
        self.is_cut = False
        self.owners = [None]
        self.layers = [Due(self.form.starts[name], None, ("route", self._route_to(event), 0), None)]
        while not self.is_over:
            self._go_on()

    def _route_to(self, event):
        standing = self.choices.standing_for(event)
        rows = [standing]
        while self.reasons[rows[-1]][0] != "start":
            rows.append(self.reasons[rows[-1]][1])
        finish, behind = None, {}
        if event[0] in ("ended", "behind", "again"):
            finish = "rest"
        if event[0] == "again":
            behind = {item[0]: ("item", item, {STOP: True}) for item in self.choices.again_items(standing[0])}
        if event[0] == "drop":
            finish = self.choices.way(standing[0], END, standing[1])
        return Route(rows[::-1], behind, finish)

    def _go_on(self):
        due = self.layers[-1]
        if due is None:
            self._end_work()
        elif due.piece is not None:
            self.layers[-1] = due.below
        elif due.plan is None:
            self.is_over = True
        elif self.moved == self.limit:
            self.is_over = True
            self.is_cut = True
        else:
            self.layers[-1] = due.below
            self.moved = self.moved + 1
            self._begin(due.number, due.plan)

    def _end_work(self):
        self.layers.pop()
        owner = self.owners.pop()
        if owner is None:
            self.is_over = True
        else:
            handle, plans = owner
            self._push(self.form.below[handle][1], plans.get(LAST))

    def _push(self, number, plan):
        self.layers[-1] = Due(number, self.layers[-1], plan, None)

    def _begin(self, number, plan):
        if plan[0] == "item":
            self._begin_item(plan[1], plan[2])
        elif plan[2] + 1 < len(plan[1].standings_on):
            self._begin_route(number, plan[1], plan[2])
        elif plan[1].finish is None:
            self.is_over = True
        elif plan[1].finish == "rest":
            self._resume()
        else:
            self._begin_item(plan[1].finish, {})

    def _begin_item(self, item, behind):
        """The node of an item begins."""
        number, triple = item
        word = self.form.forms[number][0]
        used = self.choices.past.used(item)
        if word in ("test", "call", "hold"):
            if word == "test":
                self.turns.append(used[0][0] == self.form.below[number][0])
            self._push(used[0][0], ("item", used[0], behind if word == "test" else {}))
        elif word == "then":
            second = ("item", used[1], behind) if len(used) == 2 else behind.get(self.form.below[number][1])
            self._push(self.form.below[number][1], second)
            self._push(used[0][0], ("item", used[0], behind))
        elif word == "ask":
            kind = "own" if triple[0] != 0 else "on" if triple[2] == END else "out"
            self._ask(self.form.forms[number][1], kind)
        elif word == "rest":
            self.is_over = STOP in behind
            self._resume()
        elif word == "handle":
            self._open(number, self._plans_of(item, used), ("item", used[0], {}))

    def _open(self, handle, plans, plan):
        """A handle begins, with plans for its clauses and its last part, and one for its work."""
        self.owners.append((handle, plans))
        self.layers.append(Due(self.form.below[handle][0], None, plan, None))

    def _plans_of(self, item, used):
        """The plans for the clauses and the last part of a handle, by what a rule makes its item of."""
        handle, (_, _, outcome) = item
        labels = {top: label for label, top in self.form.sides[handle].items()}
        plans = {}
        at = 1
        for _, _, own, to in handle_slots(self.form, self.choices.past.bits, item, used[0][1]):
            top = used[at][0]
            is_back = to is None and outcome == END
            plan = ("item", used[at], self._behind_back(used[at + 1]) if is_back else {})
            if to is not None:
                plans[("out", labels[top]) if top in labels else LAST] = plan
            else:
                plans[("on" if own == 0 else "own", labels[top])] = plan
            at = at + 2 if is_back else at + 1
        # What asks the label of a pair ahead of the ask of the pair goes on as this ask does.
        others = {("on", label): plan for (kind, label), plan in plans.items() if kind == "own"}
        return {**others, **plans}

    def _behind_back(self, item):
        """The plans of what follows a rest that goes back, as told by the item."""
        behind = {}
        ahead = [item]
        while ahead:
            used = self.choices.past.used(ahead.pop())
            for later in used:
                if later[1] == BACK:
                    ahead.append(later)
                else:
                    behind[later[0]] = ("item", later, behind)
        return behind

    def _ask(self, label, kind):
        """The topmost handle for the label answers with its plan for asks of this kind."""
        at = len(self.owners) - 1
        while at > 0 and label not in self.form.forms[self.owners[at][0]]:
            at = at - 1
        if at == 0:
            self.is_over = True
            return
        handle, plans = self.owners[at]
        piece = (self.owners[at:], self.layers[at:])
        del self.owners[at:]
        del self.layers[at:]
        top = self.form.sides[handle][label]
        self.layers[-1] = Due(top, self.layers[-1], None, piece)
        self._push(top, plans.get((kind, label)))

    def _resume(self):
        """A copy of the piece of the nearest clause goes on above it."""
        due = self.layers[-1]
        while due.piece is None:
            due = due.below
        owners, layers = due.piece
        self.owners.extend(list(owners))
        self.layers.extend(list(layers))

    def _begin_route(self, number, route, index):
        """The node goes on to the next standing of a route."""
        word = self.form.forms[number][0]
        later = route.standings_on[index + 1]
        plan = ("route", route, index + 1)
        if word == "handle":
            self._open_on_route(number, route, index)
        elif word == "then":
            self._begin_then(number, later, route, plan)
        else:
            if word == "test":
                self.turns.append(later[0] == self.form.below[number][0])
            self._push(later[0], plan)

    def _begin_then(self, number, later, route, plan):
        first, second = self.form.below[number]
        if later[0] == first:
            self._push(second, route.behind.get(second))
            self._push(first, plan)
            return
        reason = self.reasons[later]
        self._push(second, plan)
        if reason[0] == "then":
            self._push(first, ("item", self.choices.way(first, END, later[1]), {}))
        else:
            self._push(first, ("route", self._route_within(first, second, reason[2]), 0))

    def _route_within(self, first, second, rest):
        """A route from the first child of a then to a rest in it that is ended, up to the second child."""
        rows = [rest]
        while rows[-1][0] != first:
            rows.append(self.reasons[rows[-1]][1])
        parts = self.form.followings[rest[0]]
        behind = {part: ("item", (part, END_WAY), {}) for part in parts[:parts.index(second)]}
        return Route(rows[::-1], behind, "rest")

    def _open_on_route(self, handle, route, index):
        """A handle begins, and its work, a clause or its last part is on the route."""
        at = route.standings_on[index][1]
        later = route.standings_on[index + 1]
        plan = ("route", route, index + 1)
        ways = {label: self.choices.rest_way(top, at, False) for label, top in self.form.sides[handle].items()}
        plans = {("on", label): ("item", way, {}) for label, way in ways.items() if way is not None}
        word = self.reasons[later][0]
        work, inner = self.form.below[handle][0], self.choices.ground.inner(handle, at)
        if word == "work":
            self._open(handle, plans, plan)
        elif word == "last":
            self._open(handle, {**plans, LAST: plan}, ("item", self.choices.way(work, END, inner), {}))
        else:
            label = self.form.homes[later[0]][1]
            rest = self._rest_to_end(route, index + 1)
            if rest is None:
                way = self.choices.way(work, ("ask", label), inner)
                self._open(handle, {**plans, ("out", label): plan}, ("item", way, {}))
            else:
                pair = self.choices.pair_for(rest[0], at)
                ending = self._plans_for(handle, pair, at)
                self._open(handle, {**plans, **ending, ("own", label): plan}, ("item", pair, {}))

    def _plans_for(self, handle, pair, at):
        """The plans of a handle by which a rest is ended, but for that of the clause of the rest."""
        plans = {}
        for label, way in self.choices.back_ways(handle, pair, at).items():
            plans[("on", label)] = ("item", way, self._behind_back(self.choices.back_of(way)))
        outcome = pair[1][2]
        key = LAST if outcome == END else ("out", outcome[1])
        return {**plans, key: ("item", self.choices.end_behind(handle, pair, at), {})}

    def _rest_to_end(self, route, index):
        """A rest of the clause which the route enters with this index that is to be ended; None if there is none."""
        rows = route.standings_on
        for at in range(index, len(rows) - 1):
            if self.form.forms[rows[at][0]][0] not in ("then", "test"):
                return None
            reason = self.reasons[rows[at + 1]]
            if reason[0] == "rest":
                return reason[2]
        return rows[-1] if route.finish == "rest" else None
