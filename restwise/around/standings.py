"""Standings: what is come to and ended from a first function, with what is around it."""

from restwise.around.sets import is_closed_under, is_context_of, is_event_of, set_read
from restwise.around.spreads import MAX_STANDINGS, events_of, events_told, ground_by, standings_told
from restwise.base.programs import check_name, check_program
from restwise.base.words import has_boolean
from restwise.errors import InvalidOperation, UnknownPlace
from restwise.need.rules import check_table, families_of, least_table
from restwise.need.tables import is_closed


def is_context(program, value):
    """Whether the value is a context with labels and handles of the program."""
    check_program(program)
    return is_context_of(program.shape, value)


def is_event(program, value):
    """Whether the value is an event with places of the program."""
    check_program(program)
    return is_event_of(program.shape, value)


def check_event(program, event):
    """Refuses what is no event of the program."""
    if not is_event(program, event):
        raise InvalidOperation("this is no event of the program")


def is_closed_set(program, name, table, value):
    """Whether the value is a pair of ascending tuples, come to and ended, that is closed by the table."""
    check_program(program)
    check_name(program, name)
    check_table(program, table)
    return set_closed_by(program, name, table, value) is not None


def set_closed_by(program, name, table, value):
    """The ground of the table and the standings of a set that is closed by it; None if it is no such set."""
    ground = ground_by(program, families_of(program, table))
    rows = set_read(ground, value)
    if rows is None or not is_closed_under(ground, program.shape.starts[name], rows[0], rows[1]):
        return None
    return ground, rows[0], rows[1]


def paper_events(program, name, value):
    """The events that a pair of a closed table and a set that is closed by it tells; None if the value is none."""
    if not isinstance(value, tuple) or len(value) != 2 or not is_closed(program, value[0]):
        return None
    found = set_closed_by(program, name, value[0], value[1])
    return None if found is None else events_of(found[0], found[1], found[2])


class Standings:
    """The least closed set of standings from a first function. It never changes."""

    def __init__(self, program, name):
        check_program(program)
        check_name(program, name)
        self._program = program
        self._name = name
        self._come, self._ended = standings_told(program, name)
        self._events = events_told(program, name)
        seen = {event[1]: True for event in self._events if event[0] == "come"}
        self._never = tuple([place for place in program.shape.spots if place not in seen])

    @property
    def program(self):
        """The program."""
        return self._program

    @property
    def name(self):
        """The name of the first function."""
        return self._name

    @property
    def come(self):
        """The standings that are come to, ascending."""
        return self._come

    @property
    def ended(self):
        """The standings of rests that are ended, ascending."""
        return self._ended

    @property
    def events(self):
        """The events that can happen, ascending."""
        return self._events

    @property
    def never(self):
        """The places that are not come to, ascending."""
        return self._never

    def contexts(self, place):
        """The contexts, ascending, in which a node is come to."""
        self._program.shape.number_at(place)
        return tuple([context for other, context in self._come if other == place])

    def answers(self, place):
        """The handles that can answer an ask, or the asks that a handle can answer, ascending."""
        shape = self._program.shape
        word = shape.forms[shape.number_at(place)][0]
        if word not in ("ask", "handle"):
            raise UnknownPlace(place)
        told = [event for event in self._events if event[0] == "ask"]
        if word == "ask":
            return tuple([handle for _, ask, handle in told if ask == place])
        return tuple([ask for _, ask, handle in told if handle == place])

    def __contains__(self, value):
        return not has_boolean(value) and value in self._events

    def __len__(self):
        return len(self._come)

    def __iter__(self):
        return iter(self._come)

    def __eq__(self, other):
        if not isinstance(other, Standings):
            return False
        return self._program == other.program and self._name == other.name

    def __str__(self):
        stops = [event for event in self._events if event[0] == "stop"]
        return f"{len(self._come)} standings, {len(self._ended)} ended, {len(stops)} stops"


def least_paper(program, name):
    """The least table, and the least set that is closed by it."""
    return least_table(program), standings_told(program, name)


def can_happen(program, name, event):
    """Whether an event can happen, by the least closed set."""
    return event in events_told(program, name)


def never_paper(program, name, event):
    """Any pair of a closed table and a set that is closed by it and does not tell the event: the least ones."""
    check_program(program)
    check_name(program, name)
    check_event(program, event)
    if can_happen(program, name, event):
        raise InvalidOperation("the event can happen")
    return least_paper(program, name)


def is_never_paper(program, name, event, value):
    """Whether the value is a pair of a closed table and a set that is closed by it and does not tell the event."""
    check_program(program)
    check_name(program, name)
    check_event(program, event)
    events = paper_events(program, name, value)
    return events is not None and event not in events
