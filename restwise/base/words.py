"""Integers, names, labels and worlds."""

from restwise.errors import InvalidWorld, ParseError

MAX_LETTERS = 8
MAX_LABELS = 3
MAX_WORLD = 200
KEYWORDS = ("ask", "call", "done", "handle", "hold", "rest", "step", "test", "then")
# The same once more, as names are judged often, and a dict answers sooner.
NO_NAMES = {"ask": 1, "call": 1, "done": 1, "handle": 1, "hold": 1, "rest": 1, "step": 1, "test": 1, "then": 1}


def is_integer(value):
    """Whether the value is an integer of at most sixty digits."""
    if not isinstance(value, int) or isinstance(value, bool):
        return False
    return -(10 ** 60) < value < 10 ** 60


def has_boolean(value):
    """Whether True or False is in the value, also within tuples: `True == 1`, but they are not the same."""
    if isinstance(value, tuple):
        return any([has_boolean(item) for item in value])
    return isinstance(value, bool)


def is_name(value):
    """Whether the value is one to eight letters from a to z, and no keyword."""
    if not isinstance(value, str) or not 1 <= len(value) <= MAX_LETTERS:
        return False
    return value.isalpha() and value.islower() and value.isascii() and value not in NO_NAMES


def is_ascending(items):
    """Whether each item is less than the next one."""
    return all([item < later for item, later in zip(items, items[1:])])


def is_labels(value):
    """Whether the value is an ascending tuple of at most three names."""
    if not isinstance(value, tuple) or len(value) > MAX_LABELS:
        return False
    return all([is_name(label) for label in value]) and is_ascending(value)


def is_world(value):
    """Whether the value is a tuple of at most 200 booleans."""
    if not isinstance(value, tuple) or len(value) > MAX_WORLD:
        return False
    return all([isinstance(turn, bool) for turn in value])


def write_world(world):
    """The world as a string, with 1 for True and 0 for False."""
    if not is_world(world):
        raise InvalidWorld("a world is a tuple of at most 200 booleans")
    return "".join(["1" if turn else "0" for turn in world])


def read_world(text):
    """The world with this string."""
    if not _is_world_text(text):
        raise ParseError(None)
    return tuple([sign == "1" for sign in text])


def _is_world_text(value):
    if not isinstance(value, str) or len(value) > MAX_WORLD:
        return False
    return all([sign in ("0", "1") for sign in value])
