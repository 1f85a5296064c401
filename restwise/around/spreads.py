"""The least closed set of standings from a first function, and how each one was come to."""

from restwise.around.grounds import Ground
from restwise.around.knowing import ground_known
from restwise.around.watching import watching_of
from restwise.errors import TooMany
from restwise.need.families import END, bits_of
from restwise.need.makings import backs_by, is_again
from restwise.need.rules import is_followed, least_families

MAX_STANDINGS = 20000


class Spread:
    """What is come to and ended, in the order in which it was found.

    `reasons` tells for each standing by which rule, and from which standings: the one that has the
    node, and behind it for the second child of a then perhaps an ended rest. `come_numbers` has the
    nodes that are come to in some context.
    """

    def __init__(self, ground, start):
        self.ground = ground
        self.reasons = {(start, 0): ("start",)}
        self.come_numbers = {start: True}
        self.found_ended = {}
        self.queue = [(start, 0)]
        self.next_at = 0
        while self.next_at < len(self.queue):
            standing = self.queue[self.next_at]
            self.next_at = self.next_at + 1
            self._go_on(standing)

    def _go_on(self, standing):
        for later, word in self.ground.led_to(standing):
            self._meet(later, (word, standing))
        number, at = standing
        if self.ground.form.forms[number][0] == "rest" and self.ground.ending_pairs(number, at):
            self.found_ended[standing] = True
            for part in self.ground.ends_behind(number):
                self._meet((part, at), ("rest", (self.ground.form.above[part], at), standing))

    def _meet(self, standing, reason):
        if standing not in self.reasons:
            if len(self.queue) == MAX_STANDINGS:
                raise TooMany(MAX_STANDINGS)
            self.reasons[standing] = reason
            self.come_numbers[standing[0]] = True
            self.queue.append(standing)


def ground_by(program, families):
    """A program with the families of a table."""
    return Ground(program.shape, bits_of(program.labels), families, backs_by(program.shape, families))


def bare_ground(program):
    """A program with a table without facts."""
    return ground_by(program, [{} for _ in program.shape.spots])


def least_ground(program):
    """A program with its least table; it is worked out once for a program."""
    return program.kept("ground", _least_ground_made)


def _least_ground_made(program):
    return ground_by(program, least_families(program))


def spread_of(program, name):
    """The least closed set from a function; it is worked out once for a program."""
    return program.kept(f"spread {name}", lambda whole: Spread(least_ground(whole), whole.shape.starts[name]))


def told_spread(program, name):
    """A least closed set with the same standings; that of a watched program is sooner made by what is known of it."""
    if watching_of(program) is None:
        return spread_of(program, name)
    return program.kept(f"told spread {name}", lambda whole: Spread(_ground_told(whole), whole.shape.starts[name]))


def _ground_told(program):
    return program.kept("told ground", ground_known)


def _come_events(ground, standing):
    """The events that a standing that is come to tells, with numbers in the place of places."""
    number, at = standing
    node = ground.form.forms[number]
    found = [("come", number)]
    if node[0] == "ask":
        handle = ground.handle_for(node[1], at)
        found.append(("stop", number) if handle is None else ("ask", number, handle))
    if node[0] == "rest":
        found.append(("rest", number))
    if number in ground.form.homes and ground.is_had(number, END, at):
        found.append(("drop", number))
    return found


def _ended_events(ground, rest):
    """The events that an ended rest tells."""
    found = [("ended", rest)]
    if is_followed(ground.form, rest):
        found.append(("behind", rest))
    if is_again(ground.form, ground.families, rest):
        found.append(("again", rest))
    return found


def events_of(ground, come, ended):
    """The events, ascending, that standings which are come to and ended tell."""
    spots = ground.form.spots
    found = [event for standing in come for event in _come_events(ground, standing)]
    rests = sorted({rest for rest, _ in ended})
    found = found + [event for rest in rests for event in _ended_events(ground, rest)]
    return tuple([(event[0], *[spots[number] for number in event[1:]]) for event in sorted(set(found))])


def _standings_told(ground, standings):
    """Standings with places in the place of numbers, ascending."""
    spots = ground.form.spots
    met = sorted({at for _, at in standings})
    contexts = {number: ground.context_told(number) for number in met}
    return tuple(sorted([(spots[number], contexts[at]) for number, at in standings]))


def events_told(program, name):
    """The events, ascending, that can happen from a function; they are worked out once for a program."""
    return program.kept(f"events {name}", lambda whole: _events_made(told_spread(whole, name)))


def _events_made(spread):
    return events_of(spread.ground, list(spread.reasons), list(spread.found_ended))


def standings_told(program, name):
    """The standings that are come to from a function, and those that are ended, both ascending; likewise."""
    return program.kept(f"standings {name}", lambda whole: _standings_made(told_spread(whole, name)))


def _standings_made(spread):
    ground = spread.ground
    return _standings_told(ground, list(spread.reasons)), _standings_told(ground, list(spread.found_ended))
