"""Lines [9.1] once more, plainly: all that the rules make of some facts, each with what it uses, in order."""

from itertools import product

from tests.plain_rules import END, Node, at, is_inside, level, needs_joined, pair_of, parts_behind, union

BACK = ("back",)


def backs_made(program, rest, told):
    parts = parts_behind(program, rest)
    ways = [(part, ((), END)) for part in parts]
    if all(way in told for way in ways):
        yield BACK, ways
    for number, part in enumerate(parts):
        for place, fact in told:
            if fact == BACK and is_inside(program, place, part):
                yield BACK, ways[:number] + [(part, ((), ("rest", place[1]))), (place, BACK)]


def thens_made(here, told):
    first, second = here.children
    for place, fact in told:
        if place == first and fact[-1] != END:
            yield fact, [(first, fact)]
    for one in [fact for place, fact in told if place == first and fact != BACK and fact[-1] == END]:
        for other in [fact for place, fact in told if place == second and fact != BACK]:
            uses = [(first, one), (second, other)]
            if len(one) == 2 and len(other) == 2:
                yield (union(one[0], other[0]), other[1]), uses
            elif len(one) == 2:
                yield pair_of(other[0], needs_joined(other[1], at(one[0], "on")), other[2]), uses
            elif len(other) == 2:
                yield pair_of(one[0], needs_joined(one[1], at(other[0], "back")), other[1]), uses


def to_rests(top, told, items):
    """The facts of a clause to a rest, of so many items, each with the place of its rest."""
    return [(fact, (top[0], fact[-1][1])) for place, fact in told
            if place == top and fact != BACK and len(fact) == items and fact[-1][0] == "rest"]


def handles_made(here, told):
    work, last = here.children[:2]
    own = here.node[1:]
    for fact in [fact for place, fact in told if place == work and fact != BACK]:
        outcome = fact[-1]
        if outcome != END and outcome[1] not in own:
            besides = [(None, None)]
        else:
            top = last if outcome == END else here.clause(outcome[1])
            besides = [(top, other) for place, other in told if place == top and other != BACK and other[-1][0] != "rest"]
        for top, beside in besides:
            yield from one_handle_made(here, told, fact, top, beside)


def one_handle_made(here, told, fact, top, beside):
    work, own = here.children[0], here.node[1:]
    new = fact[-1] if beside is None else beside[-1]
    def with_back(place, taken, rest):
        return [(place, taken)] + ([(rest, BACK)] if new == END else [])
    needed = [label for label in (fact[0] if len(fact) == 2 else [label for label, _ in fact[1]]) if label in own]
    in_clause = len(fact) == 3 and fact[0] in own
    leads = to_rests(here.clause(fact[0]), told, 3) if in_clause else [(None, None)]
    for lead, lead_rest in leads:
        for ways in product(*[to_rests(here.clause(label), told, 2) for label in needed]):
            chosen = {label: way[0] for label, (way, _) in zip(needed, ways)}
            uses = [(work, fact)]
            if in_clause:
                uses += with_back(here.clause(fact[0]), lead, lead_rest)
            if beside is not None:
                uses += [(top, beside)]
            for label, (way, rest) in zip(needed, ways):
                uses += with_back(here.clause(label), way, rest)
            if any(use not in told for use in uses):
                continue
            made = handle_fact(fact, own, chosen, lead, beside, new)
            if made is not None:
                yield made, uses


def handle_fact(fact, own, chosen, lead, beside, new):
    if len(fact) == 2:
        labels = union([label for label in fact[0] if label not in own], *chosen.values())
        if beside is None:
            return (labels, new)
        if len(beside) == 2:
            return (union(labels, beside[0]), new)
        return pair_of(beside[0], needs_joined(beside[1], at(labels, "on")), new)
    if beside is not None and len(beside) == 3:
        return None
    need = needs_joined(tuple(item for item in fact[1] if item[0] not in own),
                        *[at(labels, level(fact[1], label)) for label, labels in chosen.items()],
                        lead[1] if lead is not None else (), at(beside[0], "back") if beside is not None else ())
    return pair_of(lead[0] if lead is not None else fact[0], need, new)


def made_with_uses(program, place, told):
    """The pairs (fact, uses) that the rules make at a place of told pairs (place, fact)."""
    here = Node(program, place)
    if here.word in ("done", "step"):
        yield ((), END), []
    elif here.word == "ask":
        label = here.node[1]
        yield from ((fact, []) for fact in [((), ("ask", label)), ((label,), END), (label, (), END)])
    elif here.word == "rest":
        yield ((), ("rest", place[1])), []
        yield from backs_made(program, place, told)
    elif here.word == "call":
        start = (here.node[1], 0)
        yield from ((fact, [(start, fact)]) for where, fact in told if where == start and fact != BACK)
    elif here.word in ("hold", "test"):
        yield from ((fact, [(where, fact)]) for where, fact in told if where in here.children and fact != BACK)
    elif here.word == "then":
        yield from thens_made(here, told)
    else:
        yield from handles_made(here, told)


def is_line(program, lines, index):
    """Whether the line with this index tells what a rule makes of the lines that it uses."""
    place, fact, uses = lines[index]
    if any(not 0 <= use < index for use in uses):
        return False
    told = [lines[use][:2] for use in uses]
    return any(made == fact and items == told for made, items in made_with_uses(program, place, told))


def is_lines(program, lines):
    """Whether triples, whose places and uses are of the right kinds, are lines."""
    return all(is_line(program, lines, index) for index in range(len(lines)))


def heights(lines):
    found = []
    for _, _, uses in lines:
        found.append(1 + max([found[use] for use in uses] or [0]))
    return found
