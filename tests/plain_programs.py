"""What a program is, once more and plainly by the words of the document."""

from tests.oracle import Spot, home_of, rests_below


def free_of(spot, functions):
    """The free labels of a node, by those of all functions."""
    if spot.node[0] == "ask":
        return {spot.node[1]}
    if spot.node[0] == "call":
        return functions[spot.node[1]]
    own = set(spot.node[1:]) if spot.node[0] == "handle" else set()
    parts = [free_of(child, functions) for child in spot.below]
    if parts:
        parts[0] = parts[0] - own
    return set().union(*parts)


def free_functions(tops):
    """The free labels of all functions: sets that grow until nothing comes."""
    free = {name: set() for name in tops}
    for _ in range(40):
        free = {name: free_of(top, free) for name, top in tops.items()}
    return free


def doubles(spot):
    """Whether the clause with this top doubles."""
    for then in [other for other in spot.all() if other.node[0] == "then"]:
        if all(any(home is spot for _, home in rests_below(child)) for child in then.below):
            return True
    return False


def is_quiet_enough(top, free):
    for spot in top.all():
        if spot.node[0] == "then":
            around = spot.around()
            if any(home in around for _, home in rests_below(spot.below[0])) and free_of(spot.below[1], free):
                return False
        if spot.is_clause and doubles(spot) and free_of(spot.above, free):
            return False
    return True


def is_program(functions):
    """Whether names with nodes, which are trees, are a program; all names and nodes are right ones."""
    if not 1 <= len(functions) <= 6 or any(len(nodes) > 40 for nodes in functions.values()):
        return False
    every = [node for nodes in functions.values() for node in nodes]
    if any(node[0] == "call" and node[1] not in functions for node in every):
        return False
    if len({label for node in every if node[0] in ("ask", "handle") for label in node[1:]}) > 3:
        return False
    if len([node for node in every if node[0] == "handle"]) > 8:
        return False
    tops = {name: Spot(nodes, 0, None, False) for name, nodes in functions.items()}
    for top in tops.values():
        for rest in [spot for spot in top.all() if spot.node[0] == "rest"]:
            if home_of(rest) in (None, "wrong"):
                return False
    free = free_functions(tops)
    return all(is_quiet_enough(top, free) for top in tops.values())
