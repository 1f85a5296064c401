"""The watched program of a hold, and what comes to be known of it from the facts of the program itself.

In a watched program the handles around code that is not in open code answer a label and its open
label alike. So where its own facts are asked for, it makes no difference which of the two a need
names, and the facts of the program serve for both. Only which ask a pair or an outcome tells must
be known: with these facts alone a watched program takes little longer than the program itself.
"""

from restwise.around.grounds import Ground
from restwise.base.programs import program_from
from restwise.need.families import bits_of
from restwise.need.growing import Growth
from restwise.need.rules import least_families

OPEN = "~"


def _open_node(node):
    """A node in open code."""
    if node[0] in ("ask", "call", "handle"):
        return node[:1] + tuple([OPEN + name for name in node[1:]])
    return node


def _open_rows(code, top):
    """The rows of a part in open code."""
    nodes = code.part(top).nodes
    return [(_open_node(node), top + index, True) for index, node in enumerate(nodes)]


class Watched:
    """The watched program of a hold, with what each of its nodes is made of.

    `rows` has for each name of a function a row of triples, one for each node: the node, the index
    of the node that it is made of, and whether it is in open code.
    """

    def __init__(self, program, place):
        self.whole = program
        self.spot = place
        self.node_rows = {}
        for name, code in program.functions.items():
            self.node_rows[name] = self._plain_rows(name, code, 0)
            self.node_rows[OPEN + name] = _open_rows(code, 0)
        self.rest_rows = {name: [(at, old, is_open) for at, (node, old, is_open) in enumerate(row) if node[0] == "rest"]
                          for name, row in self.node_rows.items()}
        self.ground_made = None
        codes = {name: tuple([node for node, _, _ in row]) for name, row in self.node_rows.items()}
        self.program_made = program_from(codes)

    def _plain_rows(self, name, code, index):
        """The rows of a part that is not in open code."""
        node = code[index]
        tops = code.children(index)
        below = [row for top in tops for row in self._plain_rows(name, code, top)]
        if (name, index) == self.spot:
            hold = (node, index, False)
            return [(("test",), index, False), hold] + below + [hold] + _open_rows(code, tops[0])
        if node[0] == "handle":
            both = node + tuple([OPEN + label for label in node[1:]])
            return [(both, index, False)] + below + [row for top in tops[2:] for row in _open_rows(code, top)]
        return [(node, index, False)] + below

    def is_open(self, place):
        """Whether the node at this place of the watched program is in open code."""
        name, index = place
        return self.node_rows[name][index][2]

    def old_place(self, place):
        """The place of the program whose node the node at this place is made of."""
        name, index = place
        return name.lstrip(OPEN), self.node_rows[name][index][1]

    def opening_number(self):
        """The number of the hold whose child is in open code."""
        name, index = self.spot
        ats = [at for at, (_, old, is_open) in enumerate(self.node_rows[name]) if old == index and not is_open]
        return self.program_made.shape.starts[name] + ats[-1]

    def ground_known(self):
        """The watched program with facts that serve for its standings."""
        if self.ground_made is None:
            self.ground_made = self._made_ground()
        return self.ground_made

    def _made_ground(self):
        shape, bits = self.program_made.shape, bits_of(self.program_made.labels)
        kept = least_families(self.whole)
        is_open = [self.is_open(place) for place in shape.spots]
        known = [self._family_from(place, kept, False) for place in shape.spots]
        opening = self.opening_number()
        known[opening] = {}
        dirty = [number == opening for number in range(len(known))]
        # What is known is made again of what is known of the parts, so that nothing else need be kept.
        families = Growth(shape, bits, known, [{} for _ in known], is_open, dirty).grown_families
        for number, place in enumerate(shape.spots):
            if is_open[number]:
                families[number] = self._family_from(place, kept, True)
        return Ground(shape, bits, families)

    def _family_from(self, place, kept, has_open_needs):
        """The family of a node by that of the one it is made of, with open labels in open code.

        The needs of open code have open labels only if this is asked for: contexts of open code tell
        these apart from the others.
        """
        family = kept[self.whole.shape.numbers[self.old_place(place)]]
        rests = self._rests_from(place)
        if not self.is_open(place):
            return {(own, _outcome_from(outcome, rests)): masks for (own, outcome), masks in family.items()}
        shift = 1 << (2 * len(self.whole.labels))
        more = shift if has_open_needs else 1
        return {(own * shift, _open_outcome(outcome, rests)): tuple([mask * more for mask in masks])
                for (own, outcome), masks in family.items()}

    def _rests_from(self, place):
        """For the part of this node a dict from the indices of the rests that its nodes are made of to their own."""
        name, index = place
        shape = self.program_made.shape
        end = shape.ends[shape.numbers[place]] - shape.starts[name]
        is_open = self.is_open(place)
        return {old: at for at, old, is_too in self.rest_rows[name] if index <= at < end and is_too == is_open}


def _outcome_from(outcome, rests):
    return ("rest", rests[outcome[1]]) if outcome[0] == "rest" else outcome


def _open_outcome(outcome, rests):
    return ("ask", OPEN + outcome[1]) if outcome[0] == "ask" else _outcome_from(outcome, rests)
