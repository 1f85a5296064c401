"""The shape of a whole program: all its nodes in one row, and what lies where."""

from restwise.base.trees import free_masks, label_bits
from restwise.base.words import is_integer
from restwise.errors import UnknownPlace


def _starts_of(trees):
    """For each function the number of its first node."""
    starts = {}
    ahead = 0
    for name, tree in trees.items():
        starts[name] = ahead
        ahead = ahead + len(tree.forms)
    return starts


def _rows_from(rows, start):
    """The rows with numbers in the place of indices."""
    return [tuple([start + index for index in row]) for row in rows]


def _above_of(below):
    """For each node the number of the one whose child it is; None for the first one of a function."""
    above = [None for _ in below]
    for number, row in enumerate(below):
        for child in row:
            above[child] = number
    return tuple(above)


def _owners_of(trees, starts):
    """For each rest the number of the top of the clause to which it belongs."""
    owners = {}
    for name, tree in trees.items():
        for index, node in enumerate(tree.forms):
            if node[0] == "rest":
                owners[starts[name] + index] = starts[name] + tree.homes[index]
    return owners


class Shape:
    """The nodes of a program, numbered in the order of their places. It never changes.

    A part is the numbers from that of its top up to its end, so whatever lies below a node
    has a greater number. `sides` has for each handle a dict from its labels to the tops of their
    clauses, and `homes` for each such top its handle and its label; `works` has for each work its
    handle. `followings` has for each rest the parts that follow it in its clause, from the inside out.
    """

    def __init__(self, trees):
        """`trees` is a dict from names, ascending, to trees without loose rests; each called name is there."""
        starts = _starts_of(trees)
        self.starts = starts
        self.spots = tuple([(name, index) for name, tree in trees.items() for index in range(len(tree.forms))])
        self.numbers = {place: number for number, place in enumerate(self.spots)}
        self.forms = tuple([node for tree in trees.values() for node in tree.forms])
        self.ends = tuple([starts[name] + end for name, tree in trees.items() for end in tree.ends])
        self.below = tuple([row for name, tree in trees.items() for row in _rows_from(tree.tops, starts[name])])
        self.above = _above_of(self.below)
        self.owners = _owners_of(trees, starts)
        self.quiet = tuple([starts[name] + top for name, tree in trees.items() for top in tree.quiet])
        self.doubling = tuple([starts[name] + top for name, tree in trees.items() for top in tree.doubling])
        self.sides = {number: {label: top for label, top in zip(node[1:], self.below[number][2:])}
                      for number, node in enumerate(self.forms) if node[0] == "handle"}
        self.homes = {top: (handle, label) for handle, tops in self.sides.items() for label, top in tops.items()}
        self.works = {self.below[handle][0]: handle for handle in self.sides}
        self.followings = {rest: self._following(rest, owner) for rest, owner in self.owners.items()}
        asking = [node for node in self.forms if node[0] in ("ask", "handle")]
        self.label_names = tuple(sorted({label for node in asking for label in node[1:]}))

    def _following(self, rest, owner):
        found = []
        while rest != owner:
            upper = self.above[rest]
            if self.forms[upper][0] == "then" and self.below[upper][0] == rest:
                found.append(self.below[upper][1])
            rest = upper
        return tuple(found)

    def has_place(self, value):
        """Whether the value is the place of a node."""
        if not isinstance(value, tuple) or len(value) != 2:
            return False
        return isinstance(value[0], str) and is_integer(value[1]) and value in self.numbers

    def number_at(self, place):
        """The number of the node at this place."""
        if not self.has_place(place):
            raise UnknownPlace(place)
        return self.numbers[place]

    def number_of(self, place, word):
        """The number of the node at this place, which begins with this word."""
        number = self.number_at(place)
        if self.forms[number][0] != word:
            raise UnknownPlace(place)
        return number

    def numbers_of(self, word):
        """The numbers of all nodes that begin with this word, ascending."""
        return tuple([number for number, node in enumerate(self.forms) if node[0] == word])

    def places_of(self, numbers):
        """The places of the nodes with these numbers."""
        return tuple([self.spots[number] for number in numbers])

    def start_of(self, number):
        """The number of the first node of the code in which this node stands."""
        return number - self.spots[number][1]


def free_by_number(shape):
    """For each node its free labels, ascending."""
    bits = label_bits(shape.forms)
    is_calling = any([node[0] == "call" for node in shape.forms])
    called = {name: 0 for name in shape.starts}
    free = free_masks(shape.forms, shape.below, bits, called)
    # The least sets that fit one another: each round tells more of what the called functions ask.
    later = {name: free[start] for name, start in shape.starts.items()}
    while is_calling and later != called:
        called = later
        free = free_masks(shape.forms, shape.below, bits, called)
        later = {name: free[start] for name, start in shape.starts.items()}
    told = {mask: tuple([label for label, bit in bits.items() if mask & bit]) for mask in free}
    return tuple([told[mask] for mask in free])
