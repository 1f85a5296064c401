"""Nodes and codes, and how codes are put together and taken apart."""

from restwise.base.trees import is_sound, tree_of
from restwise.base.words import is_integer, is_labels, is_name
from restwise.errors import InvalidCode, InvalidNumber, InvalidOperation, ParseError, UnknownName

MAX_NODES = 40
MAX_CLAUSES = 3
BARE_WORDS = ("done", "rest", "then", "test", "hold")
NAMING_WORDS = ("step", "ask", "call")
DONE = (("done",),)


def is_node(value):
    """Whether the value is a node."""
    if not isinstance(value, tuple) or len(value) == 0:
        return False
    word, names = value[0], value[1:]
    if word == "handle":
        return 1 <= len(names) <= MAX_CLAUSES and is_labels(names)
    if word in NAMING_WORDS:
        return len(names) == 1 and is_name(names[0])
    return word in BARE_WORDS and len(names) == 0


def _code_tree(value):
    """The tree of a value that is a code; None if it is none."""
    if not isinstance(value, tuple) or not 1 <= len(value) <= MAX_NODES:
        return None
    if not all([is_node(node) for node in value]):
        return None
    tree = tree_of(value)
    return tree if tree is not None and is_sound(tree) else None


def is_code(value):
    """Whether the value is a code, in which rests can be loose."""
    return _code_tree(value) is not None


def write_node(node):
    """The text of a node."""
    text = " ".join(node)
    return f"{text}:" if node[0] == "handle" else text


def read_tree(text):
    """The tree of the nodes with this text, whatever rests they have; None if they are not just one."""
    if not isinstance(text, str):
        return None
    words = text.split(" ")
    nodes = []
    at = 0
    while at < len(words):
        node = _node_at(words, at)
        if not is_node(node) or len(nodes) == MAX_NODES:
            return None
        nodes.append(node)
        at = at + len(node)
    return tree_of(tuple(nodes))


def _node_at(words, at):
    """The node whose text begins with this word; a tuple that is no node if there is none."""
    if words[at] == "handle":
        return _handle_of(words[at + 1:at + 1 + MAX_CLAUSES])
    if words[at] in NAMING_WORDS:
        return tuple(words[at:at + 2])
    return (words[at],)


def _handle_of(words):
    """The handle with the labels up to the first colon; () if there is no colon."""
    ending = [word.endswith(":") for word in words]
    if True not in ending:
        return ()
    last = ending.index(True)
    labels = words[:last]
    return ("handle", *labels, words[last][:-1])


def _is_renaming(value, names):
    """Whether the value is a dict from just these names to names."""
    if not isinstance(value, dict) or len(value) != len(names):
        return False
    return all([name in value and is_name(value[name]) for name in names])


def _is_clauses(value):
    """Whether the value is a dict from one to three labels to codes."""
    if not isinstance(value, dict) or not 1 <= len(value) <= MAX_CLAUSES:
        return False
    return all([is_name(label) and isinstance(code, Code) for label, code in value.items()])


def _renamed_node(node, labels, calls, steps):
    word, names = node[0], node[1:]
    if word == "call":
        return (word, calls[names[0]])
    if word == "step":
        return (word, steps[names[0]])
    changed = sorted([labels[name] for name in names])
    return (word, *changed)


def _renamed_order(node, tops, labels):
    """The children of a node, clauses in the order of their new labels."""
    clauses = sorted([(labels[label], top) for label, top in zip(node[1:], tops[2:])])
    return tops[:2] + tuple([top for _, top in clauses])


class Code:
    """A code, in which rests can be loose. It never changes."""

    def __init__(self, nodes):
        tree = _code_tree(nodes)
        if tree is None:
            raise InvalidCode("these nodes are no code")
        self._nodes = nodes
        self._tree = tree
        self._judged = True

    @classmethod
    def leaf(cls, word, *names):
        """The code of one node with these items."""
        return cls(((word, *names),))

    @classmethod
    def read(cls, text):
        """The code with this text."""
        tree = read_tree(text)
        if tree is None:
            raise ParseError(None)
        return code_read(tree)

    @property
    def nodes(self):
        """The nodes in preorder."""
        return self._nodes

    @property
    def is_plain(self):
        """Whether these nodes are a code as the document tells it; those of a watched program need not be one."""
        return self._judged or is_code(self._nodes)

    @property
    def tree(self):
        """The tree of the nodes."""
        return self._tree

    @property
    def text(self):
        """The text of the code."""
        return " ".join([write_node(node) for node in self._nodes])

    @property
    def labels(self):
        """The labels of its asks and handles, ascending."""
        return self._names_behind("ask", "handle")

    @property
    def calls(self):
        """The names that it calls, ascending."""
        return self._names_behind("call")

    @property
    def steps(self):
        """The names of its steps, ascending."""
        return self._names_behind("step")

    @property
    def loose(self):
        """The indices of its loose rests, ascending."""
        homes = self._tree.homes
        return tuple([index for index, node in enumerate(self._nodes) if node[0] == "rest" and homes[index] == 0])

    def children(self, index):
        """The indices of the children of this node."""
        self._check_index(index)
        return self._tree.tops[index]

    def part(self, index):
        """The code of this node with all below it."""
        self._check_index(index)
        tree = tree_of(self._nodes[index:self._tree.ends[index]])
        return code_from(tree, self._judged)

    def clause(self, index, label):
        """The index of the top of the clause that this handle has for the label."""
        self._check_index(index)
        node = self._nodes[index]
        labels = node[1:] if node[0] == "handle" else ()
        if label not in labels:
            raise UnknownName(label)
        clauses = self._tree.tops[index][2:]
        return clauses[labels.index(label)]

    def owner(self, index):
        """The index of the top of the clause to which this rest belongs, or None."""
        self._check_index(index)
        home = self._tree.homes[index]
        return home if self._nodes[index][0] == "rest" and home != 0 else None

    def with_part(self, index, other):
        """The code with another code in the place of this part."""
        self._check_index(index)
        if not isinstance(other, Code):
            raise InvalidOperation("the other part is no code")
        ahead = self._nodes[:index]
        behind = self._nodes[self._tree.ends[index]:]
        return Code(ahead + other.nodes + behind)

    def held(self):
        """A hold with this child."""
        return Code((("hold",),) + self._nodes)

    def handled(self, last, clauses):
        """A handle with this work, this last part and a clause for each label."""
        if not isinstance(last, Code):
            raise InvalidOperation("the last part is no code")
        if not _is_clauses(clauses):
            raise InvalidOperation("the clauses are no dict from one to three labels to codes")
        labels = sorted(clauses)
        top = ("handle", *labels)
        below = [node for label in labels for node in clauses[label].nodes]
        return Code((top,) + self._nodes + last.nodes + tuple(below))

    def renamed(self, *, labels, calls, steps):
        """The code with other names."""
        if not _is_renaming(labels, self.labels) or len(set(list(labels.values()))) != len(labels):
            raise InvalidOperation("the labels are not renamed to different names")
        if not _is_renaming(calls, self.calls):
            raise InvalidOperation("the called names are not renamed to names")
        if not _is_renaming(steps, self.steps):
            raise InvalidOperation("the steps are not renamed to names")
        nodes = []
        ahead = [0]
        while ahead:
            index = ahead.pop()
            node = self._nodes[index]
            nodes.append(_renamed_node(node, labels, calls, steps))
            ahead.extend(_renamed_order(node, self._tree.tops[index], labels)[::-1])
        return Code(tuple(nodes))

    def _check_index(self, index):
        if not is_integer(index) or not 0 <= index < len(self._nodes):
            raise InvalidNumber(index)

    def _names_behind(self, *words):
        """The names of the nodes that begin with one of these words, ascending."""
        return tuple(sorted({name for node in self._nodes if node[0] in words for name in node[1:]}))

    def _beside(self, word, other):
        """A node of two children: this code and the other one."""
        if not isinstance(other, Code):
            raise InvalidOperation("the other operand is no code")
        return Code(((word,),) + self._nodes + other.nodes)

    def __add__(self, other):
        return self._beside("then", other)

    def __or__(self, other):
        return self._beside("test", other)

    def __getitem__(self, index):
        self._check_index(index)
        return self._nodes[index]

    def __len__(self):
        return len(self._nodes)

    def __iter__(self):
        return iter(self._nodes)

    def __contains__(self, value):
        return value in self._nodes

    def __eq__(self, other):
        if not isinstance(other, Code):
            return False
        return self._nodes == other.nodes

    def __str__(self):
        return f"code of {len(self._nodes)} nodes"


def code_from(tree, is_judged):
    """The code of a tree, whatever names it has and however many nodes; it may be known to be one as told in [2.1]."""
    code = Code(DONE)
    code._nodes = tree.forms
    code._tree = tree
    code._judged = is_judged
    return code


def code_read(tree):
    """The code of a tree that has been read, so that only its rests are still to be judged."""
    if not is_sound(tree):
        raise InvalidCode("these nodes are no code")
    return code_from(tree, True)
