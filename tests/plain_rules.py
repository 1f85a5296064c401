"""The rules of [7.3] once more, plainly by the words of the document, on facts as they are written.

No fact is left out because another one covers it: each node has all facts that the rules make, each
with the round in which it first comes.
"""

from itertools import product

END = ("end",)


class Node:
    """A node with the places of what lies around it."""

    def __init__(self, program, place):
        self.program, self.place = program, place
        self.code = program[place[0]]
        self.node = self.code.nodes[place[1]]
        self.word = self.node[0]
        self.children = [(place[0], index) for index in self.code.children(place[1])]

    def clause(self, label):
        return self.children[1 + self.node.index(label)]


def parts_behind(program, place):
    """What follows a rest: second children of thens up to the top of its clause, from the inside out."""
    name, index = place
    code = program[name]
    top = code.owner(index)
    parents = {child: at for at in range(len(code)) for child in code.children(at)}
    parts = []
    while index != top:
        above = parents[index]
        if code.nodes[above][0] == "then" and code.children(above)[0] == index:
            parts.append((name, code.children(above)[1]))
        index = above
    return parts


def is_inside(program, place, part):
    code = program[part[0]]
    return part[0] == place[0] and part[1] <= place[1] < part[1] + len(code.part(part[1]))


def is_passed(program, table, part):
    """Whether a rest ahead goes on through this part."""
    if ((), END) in table[part]:
        return True
    return any(fact[0] == () and fact[1][0] == "rest" and
               all(is_passed(program, table, later) for later in parts_behind(program, (part[0], fact[1][1]))
                   if is_inside(program, later, part))
               for fact in table[part] if len(fact) == 2)


def goes_back(program, table, place):
    return all(is_passed(program, table, part) for part in parts_behind(program, place))


def goes_again(program, table, place):
    for part in parts_behind(program, place):
        if any(len(fact) == 2 and fact[0] == () and fact[1][0] == "rest" for fact in table[part]):
            return True
        if not is_passed(program, table, part):
            return False
    return False


def is_back_next(program, table, backs, place):
    """Back of a rest by lines that are there."""
    for part in parts_behind(program, place):
        if any(((), ("rest", later[1])) in table[part] for later in backs if is_inside(program, later, part)):
            return True
        if ((), END) not in table[part]:
            return False
    return True


def level(need, label):
    return dict(need).get(label, "")


def needs_joined(*needs):
    found = {}
    for need in needs:
        for label, one in need:
            found[label] = one if found.get(label) != "back" else "back"
    return tuple(sorted(found.items()))


def at(labels, one):
    return tuple((label, one) for label in labels)


def union(*labels):
    return tuple(sorted(set().union(*[set(some) for some in labels])))


def pair_of(label, need, outcome):
    """A pair in whose need the own label is left out unless it is "back"."""
    return (label, tuple(item for item in need if item != (label, "on")), outcome)


def then_facts(one, other):
    made = {fact for fact in one if fact[-1] != END}
    for first in one:
        for second in other:
            if first[-1] == END and len(first) == 2 and len(second) == 2:
                made.add((union(first[0], second[0]), second[1]))
            elif first[-1] == END and len(first) == 2:
                made.add(pair_of(second[0], needs_joined(second[1], at(first[0], "on")), second[2]))
            elif first[-1] == END and len(second) == 2:
                made.add(pair_of(first[0], needs_joined(first[1], at(second[0], "back")), second[1]))
    return made


def replacements(here, table, labels, backs):
    """For each choice of ways to rests a dict from the labels to those of their ways."""
    ways = []
    for label in labels:
        top = here.clause(label)
        ways.append([way[0] for way in table[top] if len(way) == 2 and way[1][0] == "rest"
                     and (backs is None or (top[0], way[1][1]) in backs)])
    for chosen in product(*ways):
        yield dict(zip(labels, chosen))


def handle_facts(here, table, backs):
    made = set()
    own = here.node[1:]
    for fact in table[here.children[0]]:
        outcome = fact[-1]
        if outcome == END:
            besides = table[here.children[1]]
        elif outcome[1] in own:
            besides = table[here.clause(outcome[1])]
        else:
            besides = [None]
        for beside in besides:
            new = outcome if beside is None else beside[-1]
            if new[0] != "rest":
                made |= one_handle(here, table, fact, beside, new, backs if new == END else None)
    return made


def one_handle(here, table, fact, beside, new, backs):
    own = here.node[1:]
    made = set()
    needed = fact[0] if len(fact) == 2 else [label for label, _ in fact[1]]
    for chosen in replacements(here, table, [label for label in needed if label in own], backs):
        if len(fact) == 2:
            labels = union([label for label in fact[0] if label not in own], *chosen.values())
            if beside is None:
                made.add((labels, new))
            elif len(beside) == 2:
                made.add((union(labels, beside[0]), new))
            else:
                made.add(pair_of(beside[0], needs_joined(beside[1], at(labels, "on")), new))
            continue
        if beside is not None and len(beside) == 3:
            continue
        need = needs_joined(tuple(item for item in fact[1] if item[0] not in own),
                            *[at(labels, level(fact[1], label)) for label, labels in chosen.items()],
                            at(beside[0], "back") if beside is not None else ())
        if fact[0] not in own:
            made.add(pair_of(fact[0], need, new))
        else:
            top = here.clause(fact[0])
            for pair in table[top]:
                if len(pair) == 3 and pair[2][0] == "rest" and (backs is None or (top[0], pair[2][1]) in backs):
                    made.add(pair_of(pair[0], needs_joined(need, pair[1]), new))
    return made


def made(program, place, table, backs):
    """All facts that the rules make at a node of the facts of a table."""
    here = Node(program, place)
    if here.word in ("done", "step"):
        return {((), END)}
    if here.word == "ask":
        label = here.node[1]
        return {((), ("ask", label)), ((label,), END), (label, (), END)}
    if here.word == "rest":
        return {((), ("rest", place[1]))}
    if here.word == "call":
        return set(table[(here.node[1], 0)])
    if here.word == "hold":
        return set(table[here.children[0]])
    if here.word == "test":
        return set(table[here.children[0]]) | set(table[here.children[1]])
    if here.word == "then":
        return then_facts(table[here.children[0]], table[here.children[1]])
    return handle_facts(here, table, backs)


def all_places(program):
    return [(name, index) for name in program for index in range(len(program[name]))]


def rounds(program):
    """For each place a dict from its facts to their rounds; and a dict from rests that go back to theirs."""
    places = all_places(program)
    table = {place: {} for place in places}
    backs = {}
    many = 0
    while True:
        many += 1
        fresh = [(place, fact) for place in places for fact in made(program, place, table, backs)
                 if fact not in table[place]]
        later = [place for place in program.rests if place not in backs and is_back_next(program, table, backs, place)]
        if not fresh and not later:
            return table, backs
        for place, fact in fresh:
            table[place][fact] = many
        for place in later:
            backs[place] = many


def covers(fact, other):
    """Whether the second fact covers the first one."""
    if len(fact) != len(other) or fact[-1] != other[-1]:
        return False
    if len(fact) == 2:
        return set(other[0]) <= set(fact[0])
    ranks = ("", "on", "back")
    return fact[0] == other[0] and all(ranks.index(one) <= ranks.index(level(fact[1], label)) for label, one in other[1])


def least(facts):
    facts = set(facts)
    return {fact for fact in facts if not any(other != fact and covers(fact, other) for other in facts)}
