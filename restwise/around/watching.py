"""The watched program of a hold, and what its nodes are made of."""

from restwise.base.codes import code_from
from restwise.base.programs import program_from
from restwise.base.trees import tree_of, tree_with

OPEN = "~"


def _open_node(node):
    """A node in open code."""
    if node[0] in ("ask", "call", "handle"):
        return node[:1] + tuple([OPEN + name for name in node[1:]])
    return node


def _plain_node(node):
    """A node that is not in open code."""
    if node[0] == "handle":
        return node + tuple([OPEN + label for label in node[1:]])
    return node


def _plain_rows(tree, hold, open_rows):
    """The rows of code that is not in open code; `hold` is the index of the watched hold, or None."""
    rows = []
    # What stands in open code behind a part that has begun: the index behind the part, and the rows.
    waiting = []
    for index, node in enumerate(tree.forms):
        while waiting and waiting[-1][0] == index:
            rows.extend(list(waiting.pop()[1]))
        end = tree.ends[index]
        if index == hold:
            rows.append((("test",), index, False))
            waiting.append((end, [(node, index, False)] + open_rows[index + 1:end]))
        if node[0] == "handle":
            waiting.append((end, open_rows[tree.tops[index][2]:end]))
        rows.append((_plain_node(node), index, False))
    return rows + [row for _, later in waiting[::-1] for row in later]


def _nodes_in(rows):
    return tuple([node for node, _, _ in rows])


class Watching:
    """What the nodes of the watched program of a hold are made of.

    `node_rows` has for each name of a function a row of triples, one for each node: the node, the
    index of the node that it is made of, and whether it is in open code.
    """

    def __init__(self, program, place):
        self.whole = program
        self.spot = place
        self.node_rows = {}
        self.made_codes = {}
        for name, code in program.functions.items():
            self._lay(name, code)

    def _lay(self, name, code):
        """Makes the rows and the codes of a function and of the one in open code."""
        open_rows = [(_open_node(node), index, True) for index, node in enumerate(code.nodes)]
        self.node_rows[OPEN + name] = open_rows
        self.made_codes[OPEN + name] = code_from(tree_with(code.tree, _nodes_in(open_rows)), False)
        rows = _plain_rows(code.tree, self.spot[1] if name == self.spot[0] else None, open_rows)
        self.node_rows[name] = rows
        is_same = len(rows) == len(open_rows)
        self.made_codes[name] = code if is_same else code_from(tree_of(_nodes_in(rows)), False)

    def is_open(self, place):
        """Whether the node at this place of the watched program is in open code."""
        name, index = place
        return self.node_rows[name][index][2]

    def old_place(self, place):
        """The place of the program whose node the node at this place is made of."""
        name, index = place
        return name.lstrip(OPEN), self.node_rows[name][index][1]


def watched_program(program, place):
    """The watched program of a hold, which keeps what its nodes are made of."""
    watching = Watching(program, place)
    made = program_from(watching.made_codes)
    made.kept("watching", lambda whole: watching)
    return made


def watching_of(program):
    """What the nodes of a watched program are made of; None for another program."""
    return program.kept("watching", lambda whole: None)
