"""The least families that are closed by the rules, node by node, whenever a part of a node has grown.

Unlike `restwise.need.rounds` this does not tell when a fact was first there, but is done sooner.
"""

from restwise.need.makings import backs_by, family_made, is_back
from restwise.need.masks import united


def _callers_of(shape, is_let_out):
    """A dict from the first nodes of functions to the calls of them, but for those that are let out."""
    callers = {start: [] for start in shape.starts.values()}
    for number, node in enumerate(shape.forms):
        if node[0] == "call" and not is_let_out[number]:
            callers[shape.starts[node[1]]].append(number)
    return callers


def _rests_behind(shape):
    """A dict from the parts that follow rests to the rests of their clause, the last one first, and its handle."""
    rests_of = {}
    for rest in sorted(shape.followings, reverse=True):
        rests_of.setdefault(shape.owners[rest], []).append(rest)
    found = {}
    for rest, parts in shape.followings.items():
        owner = shape.owners[rest]
        for part in parts:
            found[part] = (rests_of[owner], shape.homes[owner][0])
    return found


class Growth:
    """Families that grow until the rules make nothing further of them.

    `base` has what a node has whatever the rules make. What stays as it is is let out. `dirty` tells of
    which nodes something may still be made.
    """

    def __init__(self, shape, bits, families, backs, base, is_let_out, dirty):
        self.form = shape
        self.bits = bits
        self.grown_families = list(families)
        self.base = base
        self.let_out = is_let_out
        self.callers = _callers_of(shape, is_let_out)
        self.behind_rests = _rests_behind(shape)
        self.backs = list(backs)
        self.dirty = list(dirty)
        while True in self.dirty:
            # What lies below a node has greater numbers.
            for number in reversed(range(len(shape.forms))):
                if self.dirty[number]:
                    self.dirty[number] = False
                    self._make(number)

    def _make(self, number):
        worth = family_made(self.form, self.bits, number, self.grown_families, self.backs)
        if self.base[number]:
            worth = united([self.base[number], worth])
        if worth != self.grown_families[number]:
            self.grown_families[number] = worth
            self._tell_users(number)
            if number in self.behind_rests:
                self._look_back(self.behind_rests[number])

    def _tell_users(self, number):
        """Something further may be made of what is made of this node."""
        upper = self.form.above[number]
        if upper is None:
            for user in self.callers[number]:
                self.dirty[user] = True
        elif not self.let_out[upper]:
            self.dirty[upper] = True

    def _look_back(self, clause):
        """The rests of a clause may go back by now, which its handle must know."""
        rests, handle = clause
        for rest in rests:
            if not self.backs[rest] and is_back(self.form, self.grown_families, self.backs, rest):
                self.backs[rest] = True
                self.dirty[handle] = True


def closed_around(shape, bits, families):
    """The families of the closed table around these that is within all others."""
    every = [True for _ in shape.forms]
    none = [False for _ in shape.forms]
    return Growth(shape, bits, families, backs_by(shape, families), families, none, every).grown_families
