"""What the rules make of the families of other nodes.

`families` is a row with a family for each number of a node, and `backs` a row with True for each
number of a rest that goes on back.
"""

from restwise.need.families import END
from restwise.need.masks import (NOTHING, chained, family_from, least_masks, pieces_behind, united, with_outcome,
                                 without_own)


def goes_by(families, number, outcome):
    """Whether the node has the way to this outcome for which nothing is asked."""
    return 0 in families[number].get((0, outcome), ())


def rests_by(shape, families, number):
    """The numbers of the rests to which the node has a way for which nothing is asked."""
    start = shape.start_of(number)
    outcomes = [outcome for own, outcome in families[number] if own == 0 and outcome[0] == "rest"]
    return [start + outcome[1] for outcome in outcomes if goes_by(families, number, outcome)]


def is_back(shape, families, backs, rest):
    """Whether the rest goes on back, if `backs` tells it of the rests in what follows it."""
    for part in shape.followings[rest]:
        if any([backs[later] for later in rests_by(shape, families, part)]):
            return True
        if not goes_by(families, part, END):
            return False
    return True


def backs_by(shape, families):
    """For each number whether it is that of a rest that goes on back."""
    backs = [False for _ in shape.forms]
    # What follows a rest has greater numbers, so the rests in it are told first.
    for rest in sorted(shape.followings, reverse=True):
        backs[rest] = is_back(shape, families, backs, rest)
    return backs


def is_again(shape, families, rest):
    """Whether the rest goes on again."""
    for part in shape.followings[rest]:
        if rests_by(shape, families, part):
            return True
        if not goes_by(families, part, END):
            return False
    return False


def leaf_family(bits, node, index):
    """The family of a node without children and calls."""
    if node[0] == "ask":
        bit = bits[node[1]]
        return {(0, node): NOTHING, (0, END): (bit,), (bit, END): NOTHING}
    return {(0, ("rest", index) if node[0] == "rest" else END): NOTHING}


def family_made(shape, bits, number, families, backs):
    """The family that the rules make at a node when they are used once."""
    node = shape.forms[number]
    below = shape.below[number]
    if node[0] == "call":
        return families[shape.starts[node[1]]]
    if node[0] == "hold":
        return families[below[0]]
    if node[0] == "test":
        return united([families[below[0]], families[below[1]]])
    if node[0] == "then":
        return chained(families[below[0]], families[below[1]], END)
    if node[0] == "handle":
        return _handle_family(shape, bits, number, families, backs)
    return leaf_family(bits, node, shape.spots[number][1])


def _to_rests(shape, top, family, backs):
    """A dict from own bits to the masks of the facts to the rests of a clause that `backs` lets."""
    start = shape.start_of(top)
    kept = [(own, masks) for (own, outcome), masks in family.items()
            if outcome[0] == "rest" and (backs is None or backs[start + outcome[1]])]
    return family_from(kept)


def mask_without(mask, bits):
    """The mask without the labels of these bits."""
    return mask - (mask & sum([3 * bit for bit in bits]))


def level_in(mask, bit):
    """1 if the label with this bit is "on" in the mask, 3 if it is "back", 0 if it is absent."""
    return (mask // bit) & 3


def _replacements(mask, rests):
    """The masks in which each label of the handle is replaced by those of a way of its clause to a rest."""
    made = [mask_without(mask, rests)]
    if made == [mask]:
        return made
    for bit, ways in rests.items():
        level = level_in(mask, bit)
        if level > 0:
            made = least_masks([one | level * less for one in made for less in ways.get(0, ())])
    return made


def _replaced(work, rests):
    """A dict from own bits to masks: facts of the work with one outcome when all labels are replaced.

    Of a pair of a label of the handle this makes pairs of what its clause asks ahead of a rest.
    """
    pieces = []
    for own, masks in work.items():
        made = [mask for later in masks for mask in _replacements(later, rests)]
        if own not in rests:
            pieces.append((own, [without_own(own, mask) for mask in made]))
        else:
            pairs = [(later, others) for later, others in rests[own].items() if later != 0]
            for later, others in pairs:
                pieces.append((later, [without_own(later, mask | other) for mask in made for other in others]))
    return family_from(pieces)


def _pieces_to(family, word):
    """The part of a family with outcomes that begin with this word."""
    return {key: masks for key, masks in family.items() if key[1][0] == word}


def _handle_family(shape, bits, number, families, backs):
    """The family of a handle: its work with labels replaced, and behind it what comes in its place."""
    work, last = shape.below[number][:2]
    sides = shape.sides[number]
    going = {bits[label]: _to_rests(shape, top, families[top], None) for label, top in sides.items()}
    coming = {bits[label]: _to_rests(shape, top, families[top], backs) for label, top in sides.items()}
    pieces = []
    for outcome in sorted({outcome for _, outcome in families[work]}):
        facts = with_outcome(families[work], outcome)
        if outcome == END or outcome[1] in sides:
            beside = families[last if outcome == END else sides[outcome[1]]]
            asked, ended = _pieces_to(beside, "ask"), _pieces_to(beside, "end")
            if asked:
                pieces.extend(pieces_behind(_replaced(facts, going), asked))
            if ended:
                pieces.extend(pieces_behind(_replaced(facts, coming), ended))
        else:
            pieces.extend([((own, outcome), masks) for own, masks in _replaced(facts, going).items()])
    return family_from(pieces)
