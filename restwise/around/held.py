"""What can happen to what holds keep open, by programs in which the code that runs while one is open is told apart."""

from restwise.around.spreads import Spread, events_of, events_told
from restwise.around.watching import OPEN, Watched
from restwise.base.programs import check_name, check_program
from restwise.errors import InvalidOperation, InvalidProgram, UnknownPlace

WORDS = ("left", "lost", "shared")


def _watched(program, place):
    """The watched program of a hold, with what its nodes are made of."""
    check_program(program)
    if any([name.startswith(OPEN) for name in program.names]):
        raise InvalidProgram("a watched program is not watched again")
    program.shape.number_of(place, "hold")
    return program.latest("watched", place, lambda whole: Watched(whole, place))


def watched(program, place):
    """The watched program of a hold."""
    return _watched(program, place).program_made


def open_places(program, place):
    """The places, ascending, of the watched program that are in open code."""
    found = _watched(program, place)
    return tuple([spot for spot in found.program_made.shape.spots if found.is_open(spot)])


def place_behind(program, place, watched_place):
    """The place of the program whose node a node of the watched program is made of."""
    found = _watched(program, place)
    if not found.program_made.shape.has_place(watched_place):
        raise UnknownPlace(watched_place)
    return found.old_place(watched_place)


def _is_open_clause(found, clause):
    """Whether a clause is one for an open label of a handle that is not in open code."""
    if not found.is_open(clause):
        return False
    name, index = clause
    code = found.program_made[name]
    handles = [at for at, node in enumerate(code) if node[0] == "handle" and index in code.children(at)]
    return not found.is_open((name, handles[0]))


def _word_for(found, event):
    """The word for what happens to the hold by an event of the watched program; None if nothing does."""
    word, place = event[:2]
    if word == "stop":
        return "left" if found.is_open(place) else None
    if word == "drop":
        return "lost" if _is_open_clause(found, place) else None
    if word == "again":
        name, index = place
        return "shared" if _is_open_clause(found, (name, found.program_made[name].owner(index))) else None
    return None


def _events_by_word(program, name, place):
    """A dict from the words for what can happen to a hold to an event each by which it can."""
    child = (place[0], place[1] + 1)
    if program.is_quiet(child) or ("come", place) not in events_told(program, name):
        return {}
    return program.kept(f"held {name} {place}", lambda whole: _events_made(_watched(whole, place), name))


def _events_made(found, name):
    ground = found.ground_known()
    spread = Spread(ground, found.program_made.shape.starts[name])
    events = events_of(ground, list(spread.reasons), list(spread.found_ended))
    rows = [(_word_for(found, event), event) for event in events]
    return {word: event for word, event in rows[::-1] if word is not None}


def _check_all(program, name, place):
    check_program(program)
    check_name(program, name)
    _watched(program, place)


def can_be_lost(program, name, place):
    """Whether some run from this function loses this hold."""
    _check_all(program, name, place)
    return "lost" in _events_by_word(program, name, place)


def can_be_shared(program, name, place):
    """Whether some run from this function shares this hold."""
    _check_all(program, name, place)
    return "shared" in _events_by_word(program, name, place)


def can_be_left(program, name, place):
    """Whether some run from this function leaves this hold."""
    _check_all(program, name, place)
    return "left" in _events_by_word(program, name, place)


def held_events(program, name):
    """A dict from the places of all holds to the words, ascending, for what can happen to them."""
    check_program(program)
    check_name(program, name)
    found = {}
    # What opens nothing but a further hold is held just as long as what this one opens.
    for place in program.holds[::-1]:
        child = (place[0], place[1] + 1)
        found[place] = found[child] if child in found else tuple(sorted(_events_by_word(program, name, place)))
    return {place: found[place] for place in program.holds}


def event_in(program, name, place, word):
    """Any event of the watched program by which this can happen to the hold, or None."""
    _check_all(program, name, place)
    if not isinstance(word, str) or word not in WORDS:
        raise InvalidOperation("there is no such word for what happens to a hold")
    return _events_by_word(program, name, place).get(word)
