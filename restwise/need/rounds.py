"""How tables grow, round by round, until the rules make nothing further.

An item is a number: below the number of nodes it stands for the family of this node, and from
there on for whether the rest with the number ahead of that goes on back. The worth of each item
in a round is made of those of the round ahead. So with a table that begins without facts a fact
is there from the round on that is the least height of lines that show it.
"""

from restwise.need.makings import family_made, is_back
from restwise.need.masks import united


def _parts_of(shape, item):
    """The items of which an item is made."""
    size = len(shape.forms)
    if item >= size:
        rest = item - size
        parts = list(shape.followings[rest])
        return parts + [size + later for later in shape.followings if shape.owners[later] == shape.owners[rest]]
    node = shape.forms[item]
    if node[0] == "call":
        return [shape.starts[node[1]]]
    tops = shape.below[item][2:]
    return list(shape.below[item]) + [size + rest for rest, owner in shape.owners.items() if owner in tops]


def _users_of(shape, items):
    """For each item those that are made of it."""
    users = {item: [] for item in items}
    for item in items:
        for part in _parts_of(shape, item):
            users[part].append(item)
    return users


def _worth_made(shape, bits, now, item):
    """The next worth of an item."""
    size = len(shape.forms)
    if item >= size:
        return is_back(shape, now, now[size:], item - size)
    return united([now[item], family_made(shape, bits, item, now, now[size:])])


def grown(shape, bits, families):
    """For each item the pairs (round, worth) of the rounds in which it changes, from a table that begins as told."""
    size = len(shape.forms)
    items = list(range(size)) + [size + rest for rest in shape.followings]
    users = _users_of(shape, items)
    now = list(families) + [False for _ in shape.forms]
    history = [[(0, worth)] for worth in now]
    dirty = items
    many = 0
    while dirty:
        many = many + 1
        fresh = [(item, _worth_made(shape, bits, now, item)) for item in dirty]
        changed = [(item, worth) for item, worth in fresh if worth != now[item]]
        for item, worth in changed:
            now[item] = worth
            history[item].append((many, worth))
        dirty = sorted({user for item, _ in changed for user in users[item]})
    return history
