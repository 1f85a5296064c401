"""Sayings about a program, and what is new in one program beside another one."""

from restwise.around.marks import Marks
from restwise.around.spreads import events_told
from restwise.base.words import is_name
from restwise.need.rules import least_table
from restwise.run.marked import MARKS, is_mark
from restwise.use.modules import can_stand

LENGTHS = {"safe": 2, "does": 3, "never": 3, "stands": 3, "marked": 5}


def is_saying(value, program):
    """Whether the value is a saying about functions of a program; None is a program without functions."""
    names = () if program is None else program.names
    if not isinstance(value, tuple) or len(value) < 2 or not all([isinstance(item, str) for item in value]):
        return False
    word = value[0]
    if word not in LENGTHS or len(value) != LENGTHS[word] or value[1] not in names:
        return False
    if word in ("does", "never"):
        return is_name(value[2])
    if word == "stands":
        return value[2] in names
    return word == "safe" or (value[2] in names and _is_label(value[3], program) and is_mark(value[4]))


def _is_label(value, program):
    """Whether the value is a label, perhaps of no handle, or an open one of a watched program."""
    return is_name(value) or value in program.labels


def does_saying_hold(program, saying):
    """Whether a saying holds in a program."""
    word, name = saying[:2]
    if word == "stands":
        return can_stand(program, saying[2], name)
    if word == "marked":
        return _is_marked(program, saying)
    events = events_told(program, name)
    if word == "safe":
        return not any([event[0] == "stop" for event in events])
    does = any([event[0] == "come" and program.node(event[1]) == ("step", saying[2]) for event in events])
    return does == (word == "does")


def _is_marked(program, saying):
    _, name, other, label, mark = saying
    marks = Marks(program, name)
    handles = [place for place in program.handles if place[0] == other and label in program.node(place)[1:]]
    lowest = [marks[program.clause(place, label)] for place in handles]
    return all([MARKS.index(low) <= MARKS.index(mark) for low in lowest])


def news_of(before, after):
    """The pairs (name, word) of the functions that are others than before; None is a program without functions."""
    old = () if before is None else before.names
    new = () if after is None else after.names
    found = []
    for name in sorted(set(old + new)):
        if name not in old:
            found.append((name, "new"))
        elif name not in new:
            found.append((name, "gone"))
        else:
            word = _word_for(before, after, name)
            if word is not None:
                found.append((name, word))
    return tuple(found)


def _word_for(before, after, name):
    """The word for how a function of both programs has become another one; None if it has not."""
    # What a function does depends on nothing but the functions to which calls lead from it.
    needed = before.needed(name)
    if needed == after.needed(name) and all([before[other] == after[other] for other in needed]):
        return None
    if least_table(before)[(name, 0)] != least_table(after)[(name, 0)]:
        return "facts"
    if before[name] != after[name] or events_told(before, name) != events_told(after, name):
        return "runs"
    return None
