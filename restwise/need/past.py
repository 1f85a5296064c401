"""How the least table came about: when a fact was first there, and of which others it was made."""

from restwise.need.families import END, bits_of
from restwise.need.makings import rests_by
from restwise.need.masks import triples_of, without_own
from restwise.need.rules import history_of
from restwise.need.uses import (BACK, END_WAY, LEAVES, bare_mask, chained_triple, fits, handle_slots, same_tops,
                                with_back)


class Past:
    """The rounds of the least table of a program, and what was made of what in them."""

    def __init__(self, shape, bits, history):
        self.form = shape
        self.bits = bits
        self.history = history
        self.known = {}

    def family(self, number, turn):
        """The family of a node behind this round."""
        return [worth for many, worth in self.history[number] if many <= turn][-1]

    def round_covering(self, item):
        """The first round with a fact that covers the item's, and this fact's triple; None if there is none."""
        number, (own, mask, outcome) = item
        for many, family in self.history[number]:
            for less in family.get((own, outcome), ()):
                if less | mask == mask:
                    return many, (own, less, outcome)
        return None

    def round_with(self, item):
        """The first round with just this item; None if there is none."""
        number, (own, mask, outcome) = item
        if item[1] == BACK:
            rounds = [many for many, worth in self.history[len(self.form.forms) + number] if worth]
        else:
            rounds = [many for many, family in self.history[number] if mask in family.get((own, outcome), ())]
        return rounds[0] if rounds else None

    def is_there(self, item, turn):
        """Whether just this item has been there in some round up to this one."""
        first = self.round_with(item)
        return first is not None and first <= turn

    def used(self, item):
        """The items of the rounds ahead of its own of which an item was made, in the order of lines."""
        if item not in self.known:
            self.known[item] = _uses_of(self, item, self.round_with(item) - 1)
        return self.known[item]


def past_of(program):
    """The past of the least table; it is worked out once for a program."""
    return program.kept("past", _past_made)


def _past_made(program):
    return Past(program.shape, bits_of(program.labels), history_of(program))


def _uses_of(past, item, turn):
    """Items of the rounds up to this one of which a rule makes the item."""
    number, triple = item
    word = past.form.forms[number][0]
    if triple == BACK:
        return _uses_of_back(past, number, turn)
    if word in LEAVES:
        return []
    if word == "handle":
        return _uses_of_handle(past, item, turn)
    for top in same_tops(past.form, item):
        if past.is_there((top, triple), turn):
            return [(top, triple)]
    return _uses_of_then(past, item, turn)


def _uses_of_back(past, rest, turn):
    used = []
    for part in past.form.followings[rest]:
        families = {part: past.family(part, turn)}
        for later in rests_by(past.form, families, part):
            if past.is_there((later, BACK), turn):
                outcome = ("rest", past.form.spots[later][1])
                return used + [(part, (0, 0, outcome)), (later, BACK)]
        used = used + [(part, END_WAY)]
    return used


def _uses_of_then(past, item, turn):
    number, triple = item
    first, second = past.form.below[number]
    for one in triples_of(past.family(first, turn)):
        for other in triples_of(past.family(second, turn)):
            if one[2] == END and chained_triple(one, other) == triple:
                return [(first, one), (second, other)]
    return None


def _uses_of_handle(past, item, turn):
    work = past.form.below[item[0]][0]
    for triple in triples_of(past.family(work, turn)):
        slots = handle_slots(past.form, past.bits, item, triple)
        used = None if slots is None else _filled(past, item, triple, slots, turn)
        if used is not None:
            return [(work, triple)] + used
    return None


def _filled(past, item, work, slots, turn):
    """Items for all slots with which a rule makes the item of this fact of the work; None if there are none."""
    number, (own, mask, outcome) = item
    found = {bare_mask(past.form, past.bits, number, work): []}
    for slot in slots:
        options = _options(past, slot, outcome == END, turn)
        wider = {}
        for total, used in found.items():
            for more, items in options:
                # Bits beyond those of the mask are never lost again, but for that of the own label.
                if total | more | mask | own == mask | own:
                    wider.setdefault(total | more, used + items)
        found = wider
    fitting = [used for total, used in found.items() if without_own(own, total) == mask]
    return fitting[0] if fitting else None


def _options(past, slot, is_end, turn):
    """The pairs (mask with its weight, items) of what can be taken for a slot."""
    options = []
    for triple in triples_of(past.family(slot[0], turn)):
        if fits(slot, (slot[0], triple)):
            items = with_back(past.form, slot, (slot[0], triple), is_end)
            if all([past.is_there(item, turn) for item in items]):
                options.append((slot[1] * triple[1], items))
    return options


def items_to(past, items, limit):
    """These items and all that lead to them, each behind those that it uses; None if they are more than the limit."""
    rounds = {item: past.round_with(item) for item in items}
    ahead = list(rounds)
    while ahead and len(rounds) <= limit:
        for used in past.used(ahead.pop()):
            if used not in rounds:
                rounds[used] = past.round_with(used)
                ahead.append(used)
    if len(rounds) > limit:
        return None
    rows = sorted([(many, used) for used, many in rounds.items()])
    return [used for _, used in rows]


def earliest(past, number, triples):
    """Of these facts of a node, which the least table has, one that was first there, as an item."""
    rows = sorted([(past.round_with((number, triple)), triple) for triple in triples])
    return number, rows[0][1]
