"""Functions that can stand for others."""

from restwise.base.codes import Code, code_from
from restwise.base.programs import Program, check_name, check_program
from restwise.base.trees import tree_with
from restwise.base.words import MAX_LABELS, is_labels, is_name
from restwise.errors import InvalidFact, InvalidOperation, InvalidWord
from restwise.need.families import END, is_fact, level_of
from restwise.need.forms import labels_of
from restwise.need.lines import is_shown, shown
from restwise.need.rules import is_fact_at, least_table
from restwise.need.tables import is_closed

REST = (("rest",),)
DONE = (("done",),)


def _then(first, second):
    return (("then",),) + first + second


def _check_tester(name, fact, labels, loop):
    if not is_name(name):
        raise InvalidWord("a function has a name")
    if not is_fact(fact) or fact[-1][0] == "rest":
        raise InvalidFact("this is no way or pair to an end or an ask")
    if not is_labels(labels) or not 1 <= len(labels) <= MAX_LABELS:
        raise InvalidOperation("these are not one to three ascending labels")
    if not all([label in labels for label in labels_of([fact])]):
        raise InvalidOperation("a label of the fact is lacking")
    if not is_name(loop):
        raise InvalidWord("a function has a name")


def _tester_clause(fact, label, looping):
    """The nodes of the clause of a label in a tester, and the index in them of the second rest of a pair."""
    is_pair = len(fact) == 3
    if is_pair:
        level = level_of(fact[1], label)
    else:
        level = "on" if label in fact[0] else ""
    if is_pair and label == fact[0]:
        nodes = _then(REST, REST if level == "back" else _then(REST, looping))
        second = 2 if level == "back" else 3
    else:
        nodes = {"back": REST, "on": _then(REST, looping), "": looping}[level]
        second = 0
    if is_pair and fact[2] == ("ask", label):
        return (("test",),) + nodes + DONE, second + 1
    return nodes, second


def tester(name, fact, labels, *, loop):
    """The code of a tester, and the index of its node that is come to exactly if a fact covers this one."""
    _check_tester(name, fact, labels, loop)
    looping = (("call", loop),)
    nodes = (("handle",) + labels, ("call", name))
    nodes = nodes + (looping if len(fact) == 3 and fact[2] != END else DONE)
    told = 2
    for label in labels:
        clause, second = _tester_clause(fact, label, looping)
        if len(fact) == 3 and label == fact[0]:
            told = len(nodes) + second
        if len(fact) == 2 and fact[1] == ("ask", label):
            told = len(nodes)
        nodes = nodes + clause
    return Code(nodes), told


def _check_names(program, name, other):
    check_program(program)
    check_name(program, name)
    check_name(program, other)


def _lacking_labels(program, name, other):
    """The free labels of the other function that the first one lacks."""
    known = program.free_labels((name, 0))
    return [label for label in program.free_labels((other, 0)) if label not in known]


def _lacking_facts(program, name, other):
    """The least facts of the other function that none of the first one covers."""
    table = least_table(program)
    return [fact for fact in table[(other, 0)] if not table[(name, 0)].has_covering(fact)]


def can_stand(program, name, other):
    """Whether the other function can stand for the first one."""
    _check_names(program, name, other)
    return _lacking_labels(program, name, other) == [] and _lacking_facts(program, name, other) == []


def stand_paper(program, name, other):
    """Any paper that tells whether the other function can stand for the first one."""
    _check_names(program, name, other)
    labels = _lacking_labels(program, name, other)
    if labels:
        return ("free", labels[0])
    facts = _lacking_facts(program, name, other)
    table = least_table(program)
    if facts:
        return ("parts", facts[0], shown(program, (other, 0), facts[0]).lines, table)
    return ("stands", table, tuple([shown(program, (name, 0), fact).lines for fact in table[(other, 0)]]))


def is_stand_paper(program, name, other, value):
    """Whether the value is a paper that tells whether the other function can stand for the first one."""
    _check_names(program, name, other)
    if not isinstance(value, tuple) or len(value) < 2 or not isinstance(value[0], str):
        return False
    if value[0] == "free":
        return len(value) == 2 and isinstance(value[1], str) and value[1] in _lacking_labels(program, name, other)
    if value[0] == "stands":
        return len(value) == 3 and _does_show_all(program, name, other, value[1], value[2])
    return value[0] == "parts" and len(value) == 4 and _does_part(program, name, other, value[1:])


def _does_show_all(program, name, other, table, rows):
    """Whether lines show for each fact of the other function in a closed table one of the first one that covers it."""
    if _lacking_labels(program, name, other) or not isinstance(rows, tuple) or not is_closed(program, table):
        return False
    facts = list(table[(other, 0)])
    if len(facts) != len(rows):
        return False
    return all([is_shown(program, (name, 0), fact, lines) for fact, lines in zip(facts, rows)])


def _does_part(program, name, other, parts):
    """Whether lines show a fact of the other function that a closed table does not cover for the first one."""
    fact, lines, table = parts
    shape = program.shape
    if not is_fact_at(shape, shape.starts[other], fact) or not is_shown(program, (other, 0), fact, lines):
        return False
    return is_closed(program, table) and not table[(name, 0)].has_covering(fact)


def _calling(code, name, other):
    """The code in which each call of the first function calls the other one instead."""
    nodes = tuple([("call", other) if node == ("call", name) else node for node in code.nodes])
    return code_from(tree_with(code.tree, nodes), False)


def exchanged(program, name, other):
    """The program in which all calls of the first function in third functions call the other one instead."""
    _check_names(program, name, other)
    beneath = program.needed(name) + program.needed(other)
    return Program({caller: program[caller] if caller in beneath else _calling(program[caller], name, other)
                    for caller in program.names})
