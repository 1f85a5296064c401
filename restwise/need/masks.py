"""Facts as numbers, so that to join needs is to join bits, and to cover is to have no further bits.

Each label has a bit, and the next bit is its own, too: the label is "on" in a mask with the first
of them, and "back" in one with both. A fact is a triple (own, mask, outcome): own is 0 for a way,
whose labels are all "on", and the bit of the label for a pair. A family is a dict from pairs
(own, outcome) to the least masks, ascending.
"""

# The masks of a fact for which nothing is asked.
NOTHING = (0,)


def least_masks(masks):
    """Those of the masks that no other one of them covers, ascending."""
    if len(masks) == 1:
        return tuple(masks)
    kept = []
    for mask in sorted(set(masks)):
        if not any([less | mask == mask for less in kept]):
            kept.append(mask)
    return tuple(kept)


def family_from(pieces):
    """The family of what has the keys and the masks of these pairs."""
    groups = {}
    for key, masks in pieces:
        groups.setdefault(key, []).extend(masks)
    return {key: tuple(masks) if len(masks) == 1 else least_masks(masks) for key, masks in groups.items() if masks}


def family_of(triples):
    """The family of these facts."""
    return family_from([((own, outcome), (mask,)) for own, mask, outcome in triples])


def triples_of(family):
    """The facts of a family."""
    return [(own, mask, outcome) for (own, outcome), masks in family.items() for mask in masks]


def without_own(own, mask):
    """The mask in which the own label of a pair is left out unless it is "back"; it stays as it is for a way."""
    return mask - own if mask & (3 * own) == own else mask


def is_mask_covered(mask, masks):
    """Whether one of the masks covers this one."""
    return any([less | mask == mask for less in masks])


def is_family_within(one, other):
    """Whether the other family covers each fact of the first one."""
    return all([is_mask_covered(mask, other.get(key, ())) for key, masks in one.items() for mask in masks])


def united(families):
    """The family of the facts of all these."""
    return family_from([piece for family in families for piece in family.items()])


def met(one, other):
    """The family of the facts that both cover."""
    return family_from([(key, [mask | later for mask in masks for later in other.get(key, ())])
                        for key, masks in one.items()])


def _piece_behind(own, masks, later, others):
    """The own bit and the masks of what comes to the end with these first masks and goes on with the other ones."""
    if own == 0 and masks == NOTHING:
        return later, others
    if own == 0:
        return later, [without_own(later, mask | other) for mask in masks for other in others]
    return own, [mask | 3 * other for mask in masks for other in others]


def pieces_behind(ends, other):
    """The keys and the masks of what has the second family and comes behind ends with these own bits and masks.

    Behind a way come ways and pairs, with the labels of the way "on"; behind a pair come ways only,
    with their labels "back".
    """
    pieces = []
    for own, masks in ends.items():
        for (later, outcome), others in other.items():
            if own == 0 or later == 0:
                bit, made = _piece_behind(own, masks, later, others)
                pieces.append(((bit, outcome), made))
    return pieces


def chained(one, other, end):
    """The family of code in which what has the second family comes behind what has the first one.

    What has not come to the end stays as it is.
    """
    only_end = {(0, end): NOTHING}
    if one == only_end:
        return other
    if other == only_end:
        return one
    kept = [(key, masks) for key, masks in one.items() if key[1] != end]
    return family_from(kept + pieces_behind(with_outcome(one, end), other))


def with_outcome(family, wanted):
    """A dict from own bits to the masks of the facts with this outcome."""
    return {own: masks for (own, outcome), masks in family.items() if outcome == wanted}
