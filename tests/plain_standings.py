"""The rules of [10.2] and [10.3] once more, plainly by the words of the document, on sets of standings as they are written."""

from tests.plain_rules import Node, goes_again, goes_back, is_inside, is_passed, parts_behind

END = ("end",)


def given_in(context):
    return {label for label, _, given in context if given}


def handle_in(context, label):
    return {other: handle for other, handle, _ in context}.get(label)


def ways_had(table, place, context):
    """The outcomes of the ways of a node that are had in a context."""
    return {fact[1] for fact in table[place] if len(fact) == 2 and set(fact[0]) <= given_in(context)}


def inner(program, table, place, context):
    """The context of the work of a handle."""
    here = Node(program, place)
    triples = [triple for triple in context if triple[0] not in here.node[1:]]
    for label in here.node[1:]:
        rests = [outcome for outcome in ways_had(table, here.clause(label), context) if outcome[0] == "rest"]
        triples.append((label, place, bool(rests)))
    return tuple(sorted(triples))


def home_of(program, rest):
    """The handle and the label of the clause to which a rest belongs."""
    code = program[rest[0]]
    top = code.owner(rest[1])
    for index, node in enumerate(code.nodes):
        if node[0] == "handle":
            for label in node[1:]:
                if code.clause(index, label) == top:
                    return (rest[0], index), label
    return None


def can_come_back(program, table, handle, label, context):
    top = Node(program, handle).clause(label)
    return any(outcome[0] == "rest" and goes_back(program, table, (top[0], outcome[1]))
               for outcome in ways_had(table, top, context))


def is_ended(program, table, rest, context):
    """Whether a rest that is come to in this context is ended there."""
    handle, label = home_of(program, rest)
    here = Node(program, handle)
    own = here.node[1:]
    inside = given_in(inner(program, table, handle, context))
    for fact in table[here.children[0]]:
        if len(fact) != 3 or fact[0] != label:
            continue
        _, need, outcome = fact
        is_on = all(other in inside for other, level in need if level == "on")
        is_back = all(can_come_back(program, table, handle, other, context) if other in own else other in inside
                      for other, level in need if level == "back")
        if outcome == END:
            ends = END in ways_had(table, here.children[1], context)
        else:
            ends = outcome[0] == "ask" and outcome[1] in own and END in ways_had(table, here.clause(outcome[1]), context)
        if is_on and is_back and ends:
            return True
    return False


def is_through(program, table, rest, first):
    """Whether a rest in the first child of a then goes on through all that follows it within this child."""
    return all(is_passed(program, table, part) for part in parts_behind(program, rest) if is_inside(program, part, first))


def made_of(program, table, come, ended):
    """What the rules make of standings that are come to and ended: pairs (word, standing)."""
    for place, context in come:
        here = Node(program, place)
        if here.word in ("test", "hold"):
            yield from (("come", (child, context)) for child in here.children)
        elif here.word == "call":
            yield "come", ((here.node[1], 0), context)
        elif here.word == "then":
            first, second = here.children
            yield "come", (first, context)
            rests = [rest for rest, around in ended if around == context and is_inside(program, rest, first)
                     and second in parts_behind(program, rest)]
            if END in ways_had(table, first, context) or any(is_through(program, table, rest, first) for rest in rests):
                yield "come", (second, context)
        elif here.word == "handle":
            inside = inner(program, table, place, context)
            work, last = here.children[:2]
            yield "come", (work, inside)
            for label in here.node[1:]:
                if ("ask", label) in ways_had(table, work, inside):
                    yield "come", (here.clause(label), context)
            if END in ways_had(table, work, inside):
                yield "come", (last, context)
        elif here.word == "rest" and is_ended(program, table, place, context):
            yield "ended", (place, context)


def least_set(program, name, table):
    """The least sets, come to and ended."""
    come, ended = {((name, 0), ())}, set()
    while True:
        made = list(made_of(program, table, come, ended))
        more = {standing for word, standing in made if word == "come"} - come
        later = {standing for word, standing in made if word == "ended"} - ended
        if not more and not later:
            return come, ended
        come |= more
        ended |= later


def closed_around(program, name, table, come, ended):
    """The least closed sets around these."""
    come, ended = set(come) | {((name, 0), ())}, set(ended)
    while True:
        size = len(come) + len(ended)
        for word, standing in list(made_of(program, table, come, ended)):
            (come if word == "come" else ended).add(standing)
        if size == len(come) + len(ended):
            return come, ended


def is_closed(program, name, table, come, ended):
    if ((name, 0), ()) not in come:
        return False
    return all(standing in (come if word == "come" else ended) for word, standing in made_of(program, table, come, ended))


def has_more(program, rest):
    return any(node[0] not in ("done", "then") for part in parts_behind(program, rest)
               for node in program[part[0]].part(part[1]))


def events(program, table, come, ended):
    """The events that sets tell."""
    found = set()
    for place, context in come:
        node = program.node(place)
        found.add(("come", place))
        if node[0] == "ask":
            handle = handle_in(context, node[1])
            found.add(("stop", place) if handle is None else ("ask", place, handle))
        if node[0] == "rest":
            found.add(("rest", place))
        if place in program.clauses and END in ways_had(table, place, context):
            found.add(("drop", place))
    for rest, _ in ended:
        found.add(("ended", rest))
        if has_more(program, rest):
            found.add(("behind", rest))
        if goes_again(program, table, rest):
            found.add(("again", rest))
    return found


def all_events(program):
    """All events of a program [10.3]."""
    found = [("come", place) for name in program for place in [(name, index) for index in range(len(program[name]))]]
    for ask in program.asks:
        label = program.node(ask)[1]
        found.append(("stop", ask))
        found += [("ask", ask, handle) for handle in program.handles if label in program.node(handle)[1:]]
    for rest in program.rests:
        found += [(word, rest) for word in ("rest", "ended", "behind", "again")]
    return found + [("drop", clause) for clause in program.clauses]
