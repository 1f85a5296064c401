"""Which rule makes a fact of facts of other nodes, which are told one by one.

An item is a pair (number of a node, triple of a fact), with the triple `BACK` for a rest that goes on back.
"""

from restwise.need.families import END
from restwise.need.makings import leaf_family, level_in, mask_without
from restwise.need.masks import triples_of, without_own

BACK = (0, 0, ("back",))
END_WAY = (0, 0, END)
LEAVES = ("done", "step", "ask", "rest")


def same_tops(shape, item):
    """The numbers of the nodes from which this fact can be taken over as it is."""
    number, triple = item
    node = shape.forms[number]
    if node[0] == "call":
        return (shape.starts[node[1]],)
    if node[0] in ("hold", "test"):
        return shape.below[number]
    if node[0] == "then" and triple[2] != END:
        return shape.below[number][:1]
    return ()


def chained_triple(one, other):
    """The fact that a then makes of one of its first child to the end and one of its second child; None if none."""
    own, mask, _ = one
    later, less, outcome = other
    if own == 0:
        return (later, without_own(later, mask | less), outcome)
    return (own, mask | 3 * less, outcome) if later == 0 else None


def handle_slots(shape, bits, item, work):
    """What a rule of a handle takes besides this fact of the work to make the fact of the item.

    They are rows (number of a node, weight, own bit, outcome) in order, with None for an outcome
    to some rest; the mask that is taken counts with the weight. None if no rule makes it.
    """
    number, (own, _, outcome) = item
    work_own, work_mask, work_outcome = work
    sides = shape.sides[number]
    tops = {bits[label]: top for label, top in sides.items()}
    is_in_clause = work_own in tops
    # A way comes of ways only, and a pair that is made in no clause keeps its label.
    if (is_in_clause and own == 0) or (not is_in_clause and work_own not in (0, own)):
        return None
    slots = [(tops[work_own], 1, own, None)] if is_in_clause else []
    if work_outcome == END or work_outcome[1] in sides:
        beside = shape.below[number][1] if work_outcome == END else sides[work_outcome[1]]
        slots.append((beside, 1, own, outcome) if work_own == 0 else (beside, 3, 0, outcome))
    elif work_outcome != outcome or (work_own == 0 and own != 0):
        return None
    ways = [(top, level_in(work_mask, bit), 0, None) for bit, top in tops.items() if level_in(work_mask, bit) > 0]
    return slots + ways


def fits(slot, item):
    """Whether this item can be taken for what a slot tells."""
    number, (own, _, outcome) = item
    top, _, wanted, to = slot
    if number != top or own != wanted:
        return False
    return outcome[0] == "rest" if to is None else outcome == to


def with_back(shape, slot, item, is_needed):
    """The item, and behind it, if it is needed, that the rest to which it comes goes on back."""
    if slot[3] is not None or not is_needed:
        return [item]
    number, (_, _, outcome) = item
    return [item, (shape.start_of(number) + outcome[1], BACK)]


def bare_mask(shape, bits, number, work):
    """The mask of a fact of the work without the labels of the handle."""
    return mask_without(work[1], [bits[label] for label in shape.sides[number]])


def _is_handle_made(shape, bits, item, used):
    """Whether a rule of a handle makes the item of just these."""
    number, (own, mask, outcome) = item
    if not used or used[0][0] != shape.below[number][0]:
        return False
    work = used[0][1]
    slots = handle_slots(shape, bits, item, work)
    if slots is None:
        return False
    total = bare_mask(shape, bits, number, work)
    at = 1
    for slot in slots:
        if at >= len(used) or not fits(slot, used[at]):
            return False
        taken = with_back(shape, slot, used[at], outcome == END)
        if used[at:at + len(taken)] != taken:
            return False
        total = total | slot[1] * used[at][1][1]
        at = at + len(taken)
    return at == len(used) and without_own(own, total) == mask


def handle_word(shape, number, work, outcome):
    """The word of the rule of a handle that makes a fact with this outcome of this one of the work."""
    if work[2] == END:
        return "ended" if outcome == END else "last"
    if work[2][1] not in shape.sides[number]:
        return "passed"
    return "dropped" if outcome == END else "asked"


def _is_back_made(shape, rest, used):
    """Whether just these show that the rest goes on back."""
    parts = shape.followings[rest]
    if used == [(part, END_WAY) for part in parts]:
        return True
    ahead = len(used) - 2
    if not 0 <= ahead < len(parts) or used[:ahead] != [(part, END_WAY) for part in parts[:ahead]]:
        return False
    number, (own, mask, outcome) = used[ahead]
    if number != parts[ahead] or (own, mask, outcome[0]) != (0, 0, "rest"):
        return False
    return used[ahead + 1] == (shape.start_of(rest) + outcome[1], BACK)


def _is_then_made(shape, item, used):
    """Whether just these, of both children of a then, make the item."""
    number, triple = item
    if [top for top, _ in used] != list(shape.below[number]) or used[0][1][2] != END:
        return False
    return chained_triple(used[0][1], used[1][1]) == triple


def rule_of(shape, bits, item, used):
    """The word of the rule that makes the item of just these, in this order; None if no rule does."""
    number, triple = item
    node = shape.forms[number]
    if triple == BACK:
        return "back" if _is_back_made(shape, number, used) else None
    if node[0] in LEAVES:
        is_leaf = triple in triples_of(leaf_family(bits, node, shape.spots[number][1]))
        return "leaf" if is_leaf and not used else None
    if node[0] == "handle":
        is_made = _is_handle_made(shape, bits, item, used)
        return handle_word(shape, number, used[0][1], triple[2]) if is_made else None
    if used in [[(top, triple)] for top in same_tops(shape, item)]:
        return "same"
    return "then" if node[0] == "then" and _is_then_made(shape, item, used) else None
