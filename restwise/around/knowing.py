"""What is known of a watched program by the facts of the program that it is made of.

In a watched program the handles around code that is not in open code answer a label and its open
label alike. So where its own facts are asked for, it makes no difference which of the two a need
names, and the facts of the program serve for both. Only which ask a pair or an outcome tells must
be known: with these facts alone a watched program takes little longer than the program itself.
"""

from restwise.around.grounds import Ground
from restwise.around.watching import OPEN, watching_of
from restwise.need.families import bits_of
from restwise.need.growing import Growth
from restwise.need.makings import backs_by
from restwise.need.rules import least_families


def _moved(family, shifts, other):
    """The family in code in which the rests are further behind, as `shifts` tells by their indices, or else `other`."""
    if not shifts and other == 0 or not any([outcome[0] == "rest" for _, outcome in family]):
        return family
    return {(own, _moved_outcome(outcome, shifts, other)): masks for (own, outcome), masks in family.items()}


def _moved_outcome(outcome, shifts, other):
    if outcome[0] != "rest":
        return outcome
    return ("rest", outcome[1] + shifts.get(outcome[1], other))


def _opened(family, width, has_open_needs):
    """The family in open code; its needs have open labels only if this is asked for.

    The bit of an open label is that of the label with this factor.
    """
    more = width if has_open_needs else 1
    return {(own * width, _open_outcome(outcome)): tuple([mask * more for mask in masks])
            for (own, outcome), masks in family.items()}


def _open_outcome(outcome):
    return ("ask", OPEN + outcome[1]) if outcome[0] == "ask" else outcome


def _width_of(program):
    return 1 << (2 * len(program.labels))


def _opened_families(program):
    """The families of the least table in open code, with open needs; they are worked out once for a program."""
    return program.kept("opened families", _opened_families_made)


def _opened_families_made(program):
    width = _width_of(program)
    return [_opened(family, width, True) for family in least_families(program)]


class Known:
    """What is known of each node of a watched program, told by its number.

    `olds` tells of which node of the program it is made, and `shifts` by how much its index is the greater one.
    """

    def __init__(self, program):
        watching = watching_of(program)
        shape, whole = program.shape, watching.whole
        rows = [row for name in shape.starts for row in watching.node_rows[name]]
        starts = {name: whole.shape.starts[name.lstrip(OPEN)] for name in shape.starts}
        self.form = shape
        self.bits = bits_of(program.labels)
        self.whole = whole
        self.olds = [starts[name] + old for (name, _), (_, old, _) in zip(shape.spots, rows)]
        self.shifts = [at - old for (_, at), (_, old, _) in zip(shape.spots, rows)]
        self.opens = [is_open for _, _, is_open in rows]
        # The watched hold is in two places, the second time with its child in open code.
        spot = whole.shape.numbers[watching.spot]
        self.opening = max([number for number, old in enumerate(self.olds) if old == spot and not self.opens[number]])
        old_backs = backs_by(whole.shape, least_families(whole))
        self.backs = [old_backs[old] for old in self.olds]

    def _begun_families(self):
        """What is known as long as the hold whose child is in open code has no facts.

        The needs have no open labels, so that fewer facts differ.
        """
        kept, width = least_families(self.whole), _width_of(self.whole)
        moves = self._plain_moves()
        begun = []
        for number, old in enumerate(self.olds):
            upper = self.form.above[number]
            if not self.opens[number]:
                begun.append(_moved(kept[old], moves[self.form.spots[number][0]], 0))
            elif upper is not None and not self.opens[upper]:
                begun.append(_moved(_opened(kept[old], width, False), {}, self.shifts[number]))
            else:
                # Nothing else is made of it.
                begun.append({})
        begun[self.opening] = {}
        return begun

    def _plain_moves(self):
        """For each function a dict from the indices of rests to how far they are behind these, if they are."""
        moves = {name: {} for name in self.form.starts}
        for rest in self.form.owners:
            if not self.opens[rest] and self.shifts[rest] > 0:
                name, at = self.form.spots[rest]
                moves[name][at - self.shifts[rest]] = self.shifts[rest]
        return moves

    def serving_families(self):
        """Families that serve for standings: contexts of open code tell open labels apart from the others."""
        begun = self._begun_families()
        base = [{} for _ in begun]
        dirty = [number == self.opening for number in range(len(begun))]
        grown = Growth(self.form, self.bits, begun, self.backs, base, self.opens, dirty).grown_families
        opened = _opened_families(self.whole)
        return [_moved(opened[old], {}, shift) if is_open else family
                for family, old, shift, is_open in zip(grown, self.olds, self.shifts, self.opens)]


def ground_known(program):
    """A watched program with facts that serve for its standings."""
    known = Known(program)
    return Ground(known.form, known.bits, known.serving_families(), known.backs)
