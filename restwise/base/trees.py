"""The shape of nodes in preorder: parts, children, rests and free labels.

All functions but `part_ends` take nodes that are just one tree, and `tops`, what
`child_tops` tells of them.
"""

CHILDREN = {"then": 2, "test": 2, "hold": 1}


def child_count(node):
    """How many children a node has."""
    if node[0] == "handle":
        return len(node) + 1
    return CHILDREN.get(node[0], 0)


def part_ends(nodes):
    """For each node the index behind its part; None if the nodes are not just one tree."""
    ends = [0 for _ in nodes]
    for index in reversed(range(len(nodes))):
        end = index + 1
        for _ in range(child_count(nodes[index])):
            if end == len(nodes):
                return None
            end = ends[end]
        ends[index] = end
    return tuple(ends) if ends[0] == len(nodes) else None


def child_tops(nodes, ends):
    """For each node the indices of its children, by the ends of the parts."""
    rows = []
    for index, node in enumerate(nodes):
        tops = []
        top = index + 1
        for _ in range(child_count(node)):
            tops.append(top)
            top = ends[top]
        rows.append(tuple(tops))
    return tuple(rows)


def rest_homes(nodes, tops):
    """For each node the top of the clause to which a rest in its place belongs.

    It is 0, the top of all, where the rest is loose, and None where no rest may stand.
    """
    homes = [None for _ in nodes]
    homes[0] = 0
    for index, node in enumerate(nodes):
        if node[0] in ("then", "test"):
            for top in tops[index]:
                homes[top] = homes[index]
        if node[0] == "handle":
            for top in tops[index][2:]:
                homes[top] = top
    return tuple(homes)


def resting_parts(nodes, tops):
    """For each node whether only then and test nodes lead from it down to some rest."""
    resting = [node[0] == "rest" for node in nodes]
    for index in reversed(range(len(nodes))):
        if nodes[index][0] in ("then", "test"):
            resting[index] = any([resting[top] for top in tops[index]])
    return tuple(resting)


def doubling_tops(nodes, tops):
    """The tops of the clauses that double, and 0 if loose rests do."""
    homes = rest_homes(nodes, tops)
    resting = resting_parts(nodes, tops)
    doubling = []
    for index, node in enumerate(nodes):
        if node[0] == "then" and all([resting[top] for top in tops[index]]):
            doubling.append(homes[index])
    return tuple(doubling)


def quiet_tops(nodes, tops):
    """The indices of the nodes that must be quiet for the sake of the rests."""
    resting = resting_parts(nodes, tops)
    doubling = doubling_tops(nodes, tops)
    quiet = []
    for index, node in enumerate(nodes):
        if node[0] == "then" and resting[tops[index][0]]:
            quiet.append(tops[index][1])
        if node[0] == "handle" and any([top in doubling for top in tops[index][2:]]):
            quiet.append(index)
    return tuple(quiet)


def free_labels(nodes, tops, called):
    """For each node its free labels, ascending, by those of the called functions; absent ones ask nothing."""
    free = [() for _ in nodes]
    for index in reversed(range(len(nodes))):
        below = [free[top] for top in tops[index]]
        free[index] = _free_above(nodes[index], below, called)
    return tuple(free)


def _free_above(node, below, called):
    """The free labels of a node, by those of its children and of the called functions."""
    if node[0] == "ask":
        return node[1:]
    if node[0] == "call":
        return called.get(node[1], ())
    answered = node[1:] if node[0] == "handle" else ()
    work = [label for labels in below[:1] for label in labels if label not in answered]
    others = [label for labels in below[1:] for label in labels]
    return tuple(sorted(set(work + others)))


def is_sound(nodes, tops):
    """Whether each rest stands where it may, and all is quiet that must be, as if calls asked nothing."""
    homes = rest_homes(nodes, tops)
    if any([node[0] == "rest" and home is None for node, home in zip(nodes, homes)]):
        return False
    free = free_labels(nodes, tops, {})
    return all([free[index] == () for index in quiet_tops(nodes, tops)])
