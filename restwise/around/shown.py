"""Trails and runs that show events, and papers that tell whether an event can happen."""

from restwise.around.standings import can_happen, check_event, is_event, is_never_paper, least_paper
from restwise.around.trails import Trail, last_events
from restwise.around.unfolding import Unfolding
from restwise.around.weaving import woven
from restwise.base.programs import check_name, check_program
from restwise.base.words import MAX_WORLD, is_integer, is_world
from restwise.errors import InvalidOperation, TooMany
from restwise.run.runs import MAX_MOVES, Run


def _check_all(program, name, event):
    check_program(program)
    check_name(program, name)
    check_event(program, event)


def _check_happening(program, name, event):
    _check_all(program, name, event)
    if not can_happen(program, name, event):
        raise InvalidOperation("the event cannot happen")


def trail_to(program, name, event):
    """Any trail whose last point tells the event."""
    _check_happening(program, name, event)
    lines, points = woven(program, name, event)
    return Trail(program, name, lines, points)


def happens_in(run, event):
    """Whether the event happens in a run."""
    if not isinstance(run, Run) or not is_event(run.program, event):
        raise InvalidOperation("this is no run, or no event of its program")
    if event[0] == "come":
        return event[1] in run.places
    if event[0] == "stop":
        return run.end == event
    if event[0] == "again":
        return event[1] in run.repeated
    if event[0] == "rest":
        return any([happened[:2] == event for happened in run.row])
    return event in run.row


def run_to(program, name, event):
    """Any run from this function, without given labels, in which the event happens."""
    _check_happening(program, name, event)
    found = Unfolding(program, name, event, MAX_MOVES)
    world = _shortened(found.turns)
    if len(world) > MAX_WORLD:
        raise TooMany(MAX_WORLD)
    # A clause goes on behind an ended rest over then and done nodes up to the first other node.
    more = len(program.shape.forms) if event[0] == "behind" else 0
    run = Run(program, name, world, moves=min(found.moved + more, MAX_MOVES))
    if found.is_cut or not happens_in(run, event):
        raise TooMany(MAX_MOVES)
    return run


def _shortened(turns):
    """The world with these turns; if it is too long, without the last ones that are taken anyway."""
    many = len(turns)
    while many > MAX_WORLD and turns[many - 1]:
        many = many - 1
    return tuple(turns[:many])


def event_paper(program, name, event):
    """Any paper that tells whether the event can happen: a trail to it, or a closed set without it."""
    _check_all(program, name, event)
    if not can_happen(program, name, event):
        table, closed = least_paper(program, name)
        return ("never", table, closed)
    trail = trail_to(program, name, event)
    return ("trail", trail.lines, trail.points)


def is_event_paper(program, name, event, value):
    """Whether the value is a paper that tells whether the event can happen."""
    _check_all(program, name, event)
    if not isinstance(value, tuple) or len(value) != 3 or not isinstance(value[0], str):
        return False
    word, one, other = value
    if word == "trail":
        return event in last_events(program, name, (one, other))
    if word == "run":
        return _is_showing(program, name, event, one, other)
    return word == "never" and is_never_paper(program, name, event, (one, other))


def _is_showing(program, name, event, world, moves):
    """Whether the event happens in this world with so many moves."""
    if not is_world(world) or not is_integer(moves) or not 0 <= moves <= MAX_MOVES:
        return False
    return happens_in(Run(program, name, world, moves=moves), event)
