"""What can happen to what holds keep open, by programs in which the code that runs while one is open is told apart."""

from restwise.around.spreads import told_spread
from restwise.around.watching import OPEN, watched_program, watching_of
from restwise.base.programs import check_name, check_program
from restwise.errors import InvalidOperation, InvalidProgram, UnknownPlace
from restwise.need.families import END
from restwise.need.makings import is_again

WORDS = ("left", "lost", "shared")
EVENT_WORDS = {"left": "stop", "lost": "drop", "shared": "again"}


def _check_hold(program, place):
    check_program(program)
    if any([name.startswith(OPEN) for name in program.names]):
        raise InvalidProgram("a watched program is not watched again")
    program.shape.number_of(place, "hold")


def watched(program, place):
    """The watched program of a hold."""
    _check_hold(program, place)
    return program.latest("watched", place, lambda whole: watched_program(whole, place))


def open_places(program, place):
    """The places, ascending, of the watched program that are in open code."""
    made = watched(program, place)
    return tuple([spot for spot in made.shape.spots if watching_of(made).is_open(spot)])


def place_behind(program, place, watched_place):
    """The place of the program whose node a node of the watched program is made of."""
    made = watched(program, place)
    if not made.shape.has_place(watched_place):
        raise UnknownPlace(watched_place)
    return watching_of(made).old_place(watched_place)


def _open_clauses(made):
    """The numbers of the tops of the clauses for open labels of handles that are not in open code."""
    spots, watching = made.shape.spots, watching_of(made)
    return [top for top, (handle, _) in made.shape.homes.items()
            if watching.is_open(spots[top]) and not watching.is_open(spots[handle])]


def _stopped(made, ground, come):
    """The numbers of the asks in open code at which a run can stop."""
    spots, watching = made.shape.spots, watching_of(made)
    asks = [(number, at) for number, at in come if ground.form.forms[number][0] == "ask"]
    return [number for number, at in asks
            if watching.is_open(spots[number]) and ground.handle_for(ground.form.forms[number][1], at) is None]


def _events_made(made, name):
    """A dict from the words for what can happen to the watched hold to the first event each by which it can."""
    spread = told_spread(made, name)
    ground, shape = spread.ground, made.shape
    tops = _open_clauses(made)
    come = list(spread.reasons)
    rests = [rest for rest, _ in spread.found_ended if shape.owners[rest] in tops]
    found = {"left": _stopped(made, ground, come),
             "lost": [number for number, at in come if number in tops and ground.is_had(number, END, at)],
             "shared": [rest for rest in rests if is_again(shape, ground.families, rest)]}
    return {word: (EVENT_WORDS[word], shape.spots[min(numbers)]) for word, numbers in found.items() if numbers}


def _events_by_word(program, name, place):
    """A dict from the words for what can happen to a hold to an event each by which it can."""
    child = (place[0], place[1] + 1)
    if program.is_quiet(child) or program.shape.numbers[place] not in told_spread(program, name).come_numbers:
        return {}
    return program.kept(f"held {name} {place}", lambda whole: _events_made(watched(whole, place), name))


def _check_all(program, name, place):
    check_program(program)
    check_name(program, name)
    _check_hold(program, place)


def can_be_lost(program, name, place):
    """Whether some run from this function loses this hold."""
    _check_all(program, name, place)
    return "lost" in _events_by_word(program, name, place)


def can_be_shared(program, name, place):
    """Whether some run from this function shares this hold."""
    _check_all(program, name, place)
    return "shared" in _events_by_word(program, name, place)


def can_be_left(program, name, place):
    """Whether some run from this function leaves this hold."""
    _check_all(program, name, place)
    return "left" in _events_by_word(program, name, place)


def held_events(program, name):
    """A dict from the places of all holds to the words, ascending, for what can happen to them."""
    check_program(program)
    check_name(program, name)
    found = {}
    # What opens nothing but a further hold is held just as long as what this one opens.
    for place in program.holds[::-1]:
        child = (place[0], place[1] + 1)
        found[place] = found[child] if child in found else tuple(sorted(_events_by_word(program, name, place)))
    return {place: found[place] for place in program.holds}


def event_in(program, name, place, word):
    """Any event of the watched program by which this can happen to the hold, or None."""
    _check_all(program, name, place)
    if not isinstance(word, str) or word not in WORDS:
        raise InvalidOperation("there is no such word for what happens to a hold")
    return _events_by_word(program, name, place).get(word)
