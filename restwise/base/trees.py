"""Trees of nodes in preorder: their parts and children, where rests belong, and what is asked."""

CHILDREN = {"then": 2, "test": 2, "hold": 1}
REST = ("rest",)


class Tree:
    """Nodes in preorder that are just one tree, with what their forms tell. It never changes.

    `tops` has for each node the indices of its children, `ends` the index behind its part, and
    `homes` the top of the clause to which a rest in its place belongs: 0, the top of all, where it
    is loose, and None where no rest may stand or there are none. `doubling` are the tops of the
    clauses that double, and 0 if loose rests do; `quiet` the indices of the nodes that must be
    quiet for the sake of the rests.
    """

    def __init__(self, forms, tops, ends, homes, doubling, quiet):
        self.forms = forms
        self.tops = tops
        self.ends = ends
        self.homes = homes
        self.doubling = doubling
        self.quiet = quiet


def tree_of(nodes):
    """The tree of a tuple of nodes; None if they are not just one."""
    rows = _tops_and_ends(nodes)
    if rows is None:
        return None
    tops, ends = rows
    if REST not in nodes:
        return Tree(nodes, tops, ends, (None,) * len(nodes), (), ())
    homes = _rest_homes(nodes, tops)
    resting = _resting_parts(nodes, tops)
    doubling = _doubling_tops(nodes, tops, homes, resting)
    return Tree(nodes, tops, ends, homes, doubling, _quiet_tops(nodes, tops, resting, doubling))


def tree_with(tree, forms):
    """The tree with other nodes of the same words in the places of its own."""
    return Tree(forms, tree.tops, tree.ends, tree.homes, tree.doubling, tree.quiet)


def child_count(node):
    """How many children a node has."""
    return len(node) + 1 if node[0] == "handle" else CHILDREN.get(node[0], 0)


def _tops_and_ends(nodes):
    """For each node the indices of its children, and the index behind its part; None if this is not one tree."""
    tops = [() for _ in nodes]
    ends = list(range(1, len(nodes) + 1))
    # The tops of the parts that belong to nodes further ahead, the first one last.
    free = []
    for index in reversed(range(len(nodes))):
        many = child_count(nodes[index])
        if many > len(free):
            return None
        if many > 0:
            tops[index] = tuple(free[-many:][::-1])
            ends[index] = ends[free[-many]]
            del free[-many:]
        free.append(index)
    return (tuple(tops), tuple(ends)) if len(free) == 1 else None


def _rest_homes(nodes, tops):
    """For each node the top of the clause to which a rest in its place belongs."""
    homes = [None for _ in nodes]
    homes[0] = 0
    for index, node in enumerate(nodes):
        if node[0] in ("then", "test"):
            for top in tops[index]:
                homes[top] = homes[index]
        if node[0] == "handle":
            for top in tops[index][2:]:
                homes[top] = top
    return tuple(homes)


def _resting_parts(nodes, tops):
    """For each node whether only then and test nodes lead from it down to some rest."""
    resting = [node == REST for node in nodes]
    for index in reversed(range(len(nodes))):
        if nodes[index][0] in ("then", "test"):
            resting[index] = resting[tops[index][0]] or resting[tops[index][1]]
    return resting


def _doubling_tops(nodes, tops, homes, resting):
    doubling = []
    for index, node in enumerate(nodes):
        if node[0] == "then" and resting[tops[index][0]] and resting[tops[index][1]]:
            doubling.append(homes[index])
    return tuple(doubling)


def _quiet_tops(nodes, tops, resting, doubling):
    quiet = []
    for index, node in enumerate(nodes):
        if node[0] == "then" and resting[tops[index][0]]:
            quiet.append(tops[index][1])
        if node[0] == "handle" and any([top in doubling for top in tops[index][2:]]):
            quiet.append(index)
    return tuple(quiet)


def label_bits(nodes):
    """A dict from the labels of these nodes, ascending, to bits."""
    labels = sorted({label for node in nodes if node[0] in ("ask", "handle") for label in node[1:]})
    return {label: 1 << index for index, label in enumerate(labels)}


def free_masks(nodes, tops, bits, called):
    """For each node the bits of its free labels, by those of the called functions; absent ones ask nothing."""
    free = [0 for _ in nodes]
    for index in reversed(range(len(nodes))):
        node = nodes[index]
        if node[0] == "ask":
            free[index] = bits[node[1]]
        elif node[0] == "call":
            free[index] = called.get(node[1], 0)
        elif tops[index]:
            free[index] = _free_above(node, [free[top] for top in tops[index]], bits)
    return free


def _free_above(node, below, bits):
    """The bits of the free labels of a node, by those of its children."""
    free = below[0]
    if node[0] == "handle":
        free = free - (free & sum([bits[label] for label in node[1:]]))
    for others in below[1:]:
        free = free | others
    return free


def is_sound(tree):
    """Whether each rest stands where it may, and all is quiet that must be, as if calls asked nothing."""
    if REST not in tree.forms:
        return True
    if any([node == REST and home is None for node, home in zip(tree.forms, tree.homes)]):
        return False
    free = free_masks(tree.forms, tree.tops, label_bits(tree.forms), {})
    return all([free[index] == 0 for index in tree.quiet])
