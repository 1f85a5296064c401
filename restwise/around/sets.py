"""Contexts, events and sets of standings that are passed: whether they are any, and whether sets are closed."""

from restwise.base.words import is_ascending

RESTING = ("rest", "ended", "behind", "again")


def _is_around(shape, value):
    """Whether the value is a triple (label, handle with a clause for it, given)."""
    if not isinstance(value, tuple) or len(value) != 3:
        return False
    label, place, is_given = value
    if not isinstance(label, str) or label not in shape.label_names or not isinstance(is_given, bool):
        return False
    return is_answering(shape, place, label)


def is_answering(shape, place, label):
    """Whether this is the place of a handle with a clause for the label."""
    if not shape.has_place(place):
        return False
    node = shape.forms[shape.numbers[place]]
    return node[0] == "handle" and label in node[1:]


def is_context_of(shape, value):
    """Whether the value is a context with labels and handles of a program."""
    if not isinstance(value, tuple) or not all([_is_around(shape, item) for item in value]):
        return False
    return is_ascending([label for label, _, _ in value])


def is_event_of(shape, value):
    """Whether the value is an event with places of a program."""
    if not isinstance(value, tuple) or len(value) < 2 or not shape.has_place(value[1]):
        return False
    number = shape.numbers[value[1]]
    node = shape.forms[number]
    word = value[0]
    if word == "ask":
        return len(value) == 3 and node[0] == "ask" and is_answering(shape, value[2], node[1])
    if len(value) != 2:
        return False
    if word == "drop":
        return number in shape.homes
    if word == "stop":
        return node[0] == "ask"
    return word == "come" or (word in RESTING and node[0] == "rest")


def context_number(ground, context):
    """The number of a context with places."""
    numbers = ground.form.numbers
    return ground.number_of_context(tuple([(label, numbers[place], is_given) for label, place, is_given in context]))


def _is_standing(shape, value):
    if not isinstance(value, tuple) or len(value) != 2:
        return False
    return shape.has_place(value[0]) and is_context_of(shape, value[1])


def _read_row(ground, value):
    """The standings of an ascending tuple, with numbers in the place of places; None if it is none."""
    if not isinstance(value, tuple) or not all([_is_standing(ground.form, item) for item in value]):
        return None
    if not is_ascending(value):
        return None
    numbers = ground.form.numbers
    return [(numbers[place], context_number(ground, context)) for place, context in value]


def set_read(ground, value):
    """The standings of a pair of ascending tuples, come to and ended, as two lists; None if it is none."""
    if not isinstance(value, tuple) or len(value) != 2:
        return None
    come, ended = _read_row(ground, value[0]), _read_row(ground, value[1])
    if come is None or ended is None:
        return None
    if not all([ground.form.forms[number][0] == "rest" for number, _ in ended]):
        return None
    return come, ended


def is_closed_under(ground, start, come, ended):
    """Whether these standings, which are come to and ended, have all that the rules make of them."""
    known = {standing: True for standing in come}
    known_ended = {standing: True for standing in ended}
    if (start, 0) not in known:
        return False
    for standing in come:
        if not all([later in known for later, _ in ground.led_to(standing)]):
            return False
        number, at = standing
        is_rest = ground.form.forms[number][0] == "rest"
        if is_rest and standing not in known_ended and ground.ending_pairs(number, at):
            return False
    return all([_is_closed_behind(ground, known, rest, at) for rest, at in ended])


def _is_closed_behind(ground, known, rest, at):
    """Whether what an ended rest lets be come to, of each then that is come to, is come to."""
    parts = ground.parts_behind(rest)
    return all([(part, at) in known for part in parts if (ground.form.above[part], at) in known])
