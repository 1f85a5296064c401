"""Whether values have the form of needs, outcomes and facts, and which labels they name.

`known` is None where labels are any names, and otherwise the tuple of the labels that can stand.
"""

from restwise.base.words import is_integer, is_name

LEVELS = ("on", "back")
MOST_LABELS = 6
ENDING = ("end",)


def _is_label(value, known):
    return is_name(value) if known is None else value in known


def has_labels_form(value, known):
    """Whether the value is an ascending tuple of at most six labels."""
    if not isinstance(value, tuple) or len(value) > MOST_LABELS:
        return False
    last = ""
    for label in value:
        if not (is_name(label) if known is None else label in known) or label <= last:
            return False
        last = label
    return True


def has_outcome_form(value, known):
    """Whether the value is an outcome."""
    if not isinstance(value, tuple) or len(value) != 2:
        return value == ENDING
    if value[0] == "ask":
        return _is_label(value[1], known)
    return value[0] == "rest" and is_integer(value[1]) and value[1] >= 0


def has_need_form(value, known):
    """Whether the value is a need of at most six labels."""
    if not isinstance(value, tuple) or len(value) > MOST_LABELS:
        return False
    last = ""
    for item in value:
        if not isinstance(item, tuple) or len(item) != 2 or item[1] not in LEVELS:
            return False
        label = item[0]
        if not (is_name(label) if known is None else label in known) or label <= last:
            return False
        last = label
    return True


def has_fact_form(value, known):
    """Whether the value is a fact."""
    if not isinstance(value, tuple):
        return False
    if len(value) == 2:
        has_form = has_labels_form(value[0], known) and has_outcome_form(value[1], known)
    elif len(value) == 3:
        has_form = _is_label(value[0], known) and has_need_form(value[1], known)
        has_form = has_form and (value[0], "on") not in value[1] and has_outcome_form(value[2], known)
    else:
        return False
    # Only the label of a pair and that of an outcome can come to those of the tuple.
    return has_form and (len(value[-2]) < MOST_LABELS - 1 or len(labels_of([value])) <= MOST_LABELS)


def labels_of_outcome(outcome):
    """The labels of an outcome."""
    return outcome[1:] if outcome[0] == "ask" else ()


def labels_of_need(need):
    """The labels of a need."""
    return tuple([label for label, _ in need])


def labels_of_fact(fact):
    """The labels of a fact, that of its outcome included, some perhaps twice."""
    if len(fact) == 2:
        return fact[0] + labels_of_outcome(fact[1])
    return fact[:1] + labels_of_need(fact[1]) + labels_of_outcome(fact[2])


def labels_of(facts):
    """The labels of facts, those of outcomes included, ascending."""
    return tuple(sorted({label for fact in facts for label in labels_of_fact(fact)}))


def does_cover(one, other):
    """Whether the first fact is covered by the second one."""
    if len(one) != len(other) or one[-1] != other[-1]:
        return False
    if len(one) == 2:
        return all([label in one[0] for label in other[0]])
    if one[0] != other[0]:
        return False
    need = one[1]
    return all([item in need or (item[1] == "on" and (item[0], "back") in need) for item in other[1]])
