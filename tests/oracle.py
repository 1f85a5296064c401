"""What a code is, once more and plainly by the words of the document; small and random trees."""

from itertools import product

COUNTS = {"then": 2, "test": 2, "hold": 1}


def count_of(node):
    return len(node) + 1 if node[0] == "handle" else COUNTS.get(node[0], 0)


class Spot:
    """A node with its children and what is above it."""

    def __init__(self, nodes, index, above, is_clause):
        self.node, self.index, self.above, self.is_clause = nodes[index], index, above, is_clause
        self.below = []
        behind = index + 1
        for number in range(count_of(self.node)):
            is_clause_below = self.node[0] == "handle" and number >= 2
            child = Spot(nodes, behind, self, is_clause_below)
            self.below.append(child)
            behind = child.behind
        self.behind = behind

    def all(self):
        return [self] + [spot for child in self.below for spot in child.all()]

    def around(self):
        """This spot and all above it."""
        return [self] + (self.above.around() if self.above else [])

    def free(self):
        if self.node[0] == "ask":
            return {self.node[1]}
        own = set(self.node[1:]) if self.node[0] == "handle" else set()
        parts = [child.free() for child in self.below]
        if parts:
            parts[0] = parts[0] - own
        return set().union(*parts)


def home_of(rest):
    """The clause to which a rest belongs, None if it is loose, "wrong" if it stands wrongly."""
    for spot in rest.around():
        if spot is not rest and spot.node[0] not in ("then", "test"):
            return "wrong"
        if spot.is_clause:
            return spot
    return None


def rests_below(spot):
    return [(rest, home_of(rest)) for rest in spot.all() if rest.node[0] == "rest"]


def is_tree(nodes):
    try:
        return Spot(nodes, 0, None, False).behind == len(nodes)
    except IndexError:
        return False


def is_sound(nodes):
    """Whether nodes that are a tree keep [0.9] and [2.1]."""
    top = Spot(nodes, 0, None, False)
    if "wrong" in [home for _, home in rests_below(top)]:
        return False
    for then in [spot for spot in top.all() if spot.node[0] == "then"]:
        first, second = then.below
        around = then.around()
        if [home for _, home in rests_below(first) if home is None or home in around] and second.free():
            return False
        doubled = [home for _, home in rests_below(first) if home in [other for _, other in rests_below(second)]]
        if [home for home in doubled if home is not None and home in around and home.above.free()]:
            return False
    return True


def trees(size, leaves, inner, known=None):
    """All trees of so many nodes, of these nodes without and with children."""
    known = {} if known is None else known
    if size not in known:
        found = [(leaf,) for leaf in leaves] if size == 1 else []
        for node in inner:
            for sizes in splits(size - 1, count_of(node)):
                for parts in product(*[trees(part, leaves, inner, known) for part in sizes]):
                    found.append((node,) + sum(parts, ()))
        known[size] = found
    return known[size]


def splits(total, parts):
    if parts == 0:
        return [()] if total == 0 else []
    return [(first,) + rest for first in range(1, total - parts + 2) for rest in splits(total - first, parts - 1)]


def random_tree(chance, size, resting):
    """A tree of about so many nodes; rests stand mostly where they may."""
    if size <= 1:
        leaves = [("done",), ("step", "p"), ("ask", "a"), ("ask", "b"), ("call", "f")]
        return (chance.choice(leaves + [("rest",)] * 3 if resting else leaves),)
    node = chance.choice([("then",), ("then",), ("test",), ("hold",), ("handle", "a"), ("handle", "a", "b"),
                          ("handle", "b", "c", "d")])
    shares = [1 + chance.randrange(max(1, 2 * size // (count_of(node) + 1))) for _ in range(count_of(node))]
    found = (node,)
    for number, share in enumerate(shares):
        lets = resting if node[0] in ("then", "test") else node[0] == "handle" and number >= 2
        found = found + random_tree(chance, share, lets or chance.random() < 0.02)
    return found
