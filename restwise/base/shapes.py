"""The shape of a whole program: all its nodes in one row, and what lies where."""

from restwise.base.trees import child_tops, doubling_tops, free_labels, part_ends, quiet_tops, rest_homes
from restwise.base.words import is_integer
from restwise.errors import UnknownPlace


def _free_of_functions(codes, tops):
    """For each function its free labels: the least sets that fit one another."""
    free = {name: () for name in codes}
    while True:
        later = {name: free_labels(codes[name], tops[name], free)[0] for name in codes}
        if later == free:
            return free
        free = later


def _starts_of(codes):
    """For each function the number of its first node."""
    starts = {}
    ahead = 0
    for name in codes:
        starts[name] = ahead
        ahead = ahead + len(codes[name])
    return starts


def _owners_of(nodes, tops, start):
    """For each node the number of the top of the clause to which a rest belongs, None for other nodes."""
    homes = rest_homes(nodes, tops)
    return [start + home if node[0] == "rest" else None for node, home in zip(nodes, homes)]


def _clause_tops(below):
    """The numbers of the tops of all clauses, ascending: only handles have more than two children."""
    return tuple(sorted([top for tops in below for top in tops[2:]]))


def _followings_of(nodes, below, ends, owners):
    """For each rest the numbers of the parts that follow it in its clause, from the inside out."""
    followings = {}
    for rest, owner in enumerate(owners):
        if owner is not None:
            thens = [number for number in range(owner, rest) if nodes[number][0] == "then"]
            firsts = [below[number] for number in thens if below[number][0] <= rest < ends[below[number][0]]]
            followings[rest] = tuple([second for _, second in firsts[::-1]])
    return followings


class Shape:
    """The nodes of a program, numbered in the order of their places. It never changes.

    A part is the numbers from that of its top up to its end, so whatever lies below a node
    has a greater number.
    """

    def __init__(self, codes):
        """`codes` is a dict from names, ascending, to nodes without loose rests; each called name is there."""
        tops = {name: child_tops(codes[name], part_ends(codes[name])) for name in codes}
        free = _free_of_functions(codes, tops)
        starts = _starts_of(codes)
        self.starts = starts
        self.spots = tuple([(name, index) for name in codes for index in range(len(codes[name]))])
        self.numbers = {place: number for number, place in enumerate(self.spots)}
        self.forms = tuple([node for name in codes for node in codes[name]])
        self.ends = tuple([starts[name] + end for name in codes for end in part_ends(codes[name])])
        self.below = tuple([tuple([starts[name] + top for top in row]) for name in codes for row in tops[name]])
        self.owners = tuple([owner for name in codes for owner in _owners_of(codes[name], tops[name], starts[name])])
        self.free = tuple([row for name in codes for row in free_labels(codes[name], tops[name], free)])
        self.quiet = tuple([starts[name] + top for name in codes for top in quiet_tops(codes[name], tops[name])])
        self.doubling = tuple([starts[name] + top for name in codes for top in doubling_tops(codes[name], tops[name])])
        self.clause_tops = _clause_tops(self.below)
        asking = [node for node in self.forms if node[0] in ("ask", "handle")]
        self.label_names = tuple(sorted({label for node in asking for label in node[1:]}))
        self.followings = _followings_of(self.forms, self.below, self.ends, self.owners)

    def has_place(self, value):
        """Whether the value is the place of a node."""
        if not isinstance(value, tuple) or len(value) != 2:
            return False
        return isinstance(value[0], str) and is_integer(value[1]) and value in self.numbers

    def number_at(self, place):
        """The number of the node at this place."""
        if not self.has_place(place):
            raise UnknownPlace(place)
        return self.numbers[place]

    def number_of(self, place, word):
        """The number of the node at this place, which begins with this word."""
        number = self.number_at(place)
        if self.forms[number][0] != word:
            raise UnknownPlace(place)
        return number

    def numbers_of(self, word):
        """The numbers of all nodes that begin with this word, ascending."""
        return tuple([number for number, node in enumerate(self.forms) if node[0] == word])

    def places_of(self, numbers):
        """The places of the nodes with these numbers."""
        return tuple([self.spots[number] for number in numbers])

    def start_of(self, number):
        """The number of the first node of the code in which this node stands."""
        return number - self.spots[number][1]

    def sides_of(self, handle):
        """A dict from the labels of a handle to the numbers of the tops of their clauses."""
        return {label: top for label, top in zip(self.forms[handle][1:], self.below[handle][2:])}
