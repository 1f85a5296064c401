"""Trails [12.1] once more, plainly: each row of the table of points, on points as they are written."""

from tests.plain_rules import Node, parts_behind
from tests.plain_standings import given_in, has_more, home_of

END, WAY, BACK = ("end",), ((), ("end",)), ("back",)


def is_had(fact, context):
    return fact != BACK and len(fact) == 2 and set(fact[0]) <= given_in(context)


class PlainTrail:
    def __init__(self, program, name, lines, points):
        self.program, self.name, self.lines, self.points = program, name, lines, points

    def is_right(self):
        return all(self.is_point(index) for index in range(len(self.points)))

    def is_point(self, index):
        word, place, context, ahead, facts = self.points[index]
        if any(not 0 <= other < index for other in ahead) or any(not 0 <= fact < len(self.lines) for fact in facts):
            return False
        told = [self.lines[fact][:2] for fact in facts]
        rows = {"come": (self.start, self.same, self.second, self.behind_rest, self.work, self.clause, self.last),
                "ended": (self.ended,), "again": (self.again,), "drop": (self.drop,)}
        return any(row(place, context, ahead, told) for row in rows[word])

    def come(self, index):
        """The place and the context of a point that is come to; two values that are none for another one."""
        word, place, context = self.points[index][:3]
        return (place, context) if word == "come" else (None, None)

    def start(self, place, context, ahead, told):
        return (place, context, ahead, told) == ((self.name, 0), (), (), [])

    def same(self, place, context, ahead, told):
        if len(ahead) != 1 or told:
            return False
        upper, around = self.come(ahead[0])
        if upper is None or around != context:
            return False
        here = Node(self.program, upper)
        below = {"test": here.children, "hold": here.children, "then": here.children[:1],
                 "call": [(here.node[-1], 0)]}.get(here.word, [])
        return place in below

    def then_of(self, place, ahead, context):
        """The then whose second child this is, if the point ahead tells it in this context."""
        upper, around = self.come(ahead[0])
        if upper is None or around != context or self.program.node(upper)[0] != "then":
            return None
        return upper if Node(self.program, upper).children[1] == place else None

    def second(self, place, context, ahead, told):
        if len(ahead) != 1 or len(told) != 1:
            return False
        then = self.then_of(place, ahead, context)
        if then is None:
            return False
        where, fact = told[0]
        return where == Node(self.program, then).children[0] and is_had(fact, context) and fact[1] == END

    def behind_rest(self, place, context, ahead, told):
        if len(ahead) != 2:
            return False
        then = self.then_of(place, ahead, context)
        word, rest, around = self.points[ahead[1]][:3]
        if then is None or word != "ended" or around != context or rest[0] != place[0]:
            return False
        parts = parts_behind(self.program, rest)
        if place not in parts:
            return False
        return told == [(part, WAY) for part in parts[:parts.index(place)]]

    def work(self, place, context, ahead, told):
        if len(ahead) != 1:
            return False
        handle, outer = self.come(ahead[0])
        if handle is None or self.program.node(handle)[0] != "handle" or Node(self.program, handle).children[0] != place:
            return False
        here = Node(self.program, handle)
        own = here.node[1:]
        if [triple for triple in context if triple[0] not in own] != [triple for triple in outer if triple[0] not in own]:
            return False
        mine = [triple for triple in context if triple[0] in own]
        if [triple[:2] for triple in mine] != [(label, handle) for label in own]:
            return False
        given = [label for label, _, is_given in mine if is_given]
        return len(told) == len(given) and all(self.is_rest_way(item, here.clause(label), outer) for item, label in zip(told, given))

    def is_rest_way(self, item, top, context):
        where, fact = item
        return where == top and is_had(fact, context) and fact[1][0] == "rest"

    def work_ahead(self, ahead):
        """The handle, the outer and the inner context of a point of a work."""
        work, inner = self.come(ahead[0])
        if work is None or len(self.points[ahead[0]][3]) != 1:
            return None
        handle, outer = self.come(self.points[ahead[0]][3][0])
        if handle is None or self.program.node(handle)[0] != "handle" or Node(self.program, handle).children[0] != work:
            return None
        return handle, outer, inner

    def clause(self, place, context, ahead, told):
        found = self.work_ahead(ahead) if len(ahead) == 1 and len(told) == 1 else None
        if found is None or context != found[1]:
            return False
        here = Node(self.program, found[0])
        where, fact = told[0]
        return any(here.clause(label) == place and fact[-1] == ("ask", label) for label in here.node[1:]) \
            and where == here.children[0] and is_had(fact, found[2])

    def last(self, place, context, ahead, told):
        found = self.work_ahead(ahead) if len(ahead) == 1 and len(told) == 1 else None
        if found is None or context != found[1]:
            return False
        here = Node(self.program, found[0])
        where, fact = told[0]
        return place == here.children[1] and where == here.children[0] and is_had(fact, found[2]) and fact[1] == END

    def ended(self, place, context, ahead, told):
        if len(ahead) != 2 or not told or self.program.node(place)[0] != "rest":
            return False
        found = self.work_ahead(ahead)
        if found is None or found[1] != context or self.come(ahead[1]) != (place, context):
            return False
        handle, label = home_of(self.program, place)
        here = Node(self.program, handle)
        where, pair = told[0]
        if found[0] != handle or where != here.children[0] or len(pair) != 3 or pair[0] != label:
            return False
        own, inside, outcome = here.node[1:], given_in(found[2]), pair[2]
        if any(other not in inside for other, level in pair[1] if level == "on" or other not in own):
            return False
        at = 1
        for other in [other for other, level in pair[1] if level == "back" and other in own]:
            if len(told) < at + 2 or not self.is_rest_way(told[at], here.clause(other), context):
                return False
            if told[at + 1] != ((place[0], told[at][1][1][1]), BACK):
                return False
            at += 2
        if outcome != END and (outcome[0] != "ask" or outcome[1] not in own):
            return False
        top = here.children[1] if outcome == END else here.clause(outcome[1])
        return len(told) == at + 1 and told[at][0] == top and is_had(told[at][1], context) and told[at][1][1] == END

    def again(self, place, context, ahead, told):
        if len(ahead) != 1 or self.points[ahead[0]][:3] != ("ended", place, context) or not told:
            return False
        parts = parts_behind(self.program, place)
        if len(told) > len(parts) or told[:-1] != [(part, WAY) for part in parts[:len(told) - 1]]:
            return False
        where, fact = told[-1]
        return where == parts[len(told) - 1] and len(fact) == 2 and fact[0] == () and fact[1][0] == "rest"

    def drop(self, place, context, ahead, told):
        if len(ahead) != 1 or len(told) != 1 or place not in self.program.clauses:
            return False
        return self.come(ahead[0]) == (place, context) and told[0][0] == place and is_had(told[0][1], context) and told[0][1][1] == END


def events_at(program, point):
    """What a point tells [12.2]."""
    word, place, context = point[:3]
    found = {(word, place)}
    node = program.node(place)
    if word == "come" and node[0] == "rest":
        found.add(("rest", place))
    if word == "come" and node[0] == "ask":
        handles = [handle for label, handle, _ in context if label == node[1]]
        found.add(("ask", place, handles[0]) if handles else ("stop", place))
    if word == "ended" and has_more(program, place):
        found.add(("behind", place))
    return tuple(sorted(found))
