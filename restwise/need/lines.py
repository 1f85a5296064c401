"""Lines, which show how something happens."""

from restwise.base.programs import check_program
from restwise.base.words import has_boolean, is_integer
from restwise.errors import InvalidLines, InvalidNumber, InvalidOperation, TooMany
from restwise.need.families import bits_of, fact_from, triple_of
from restwise.need.forms import does_cover
from restwise.need.past import items_to, past_of
from restwise.need.reading import GOES_BACK, MAX_LINES, lines_read
from restwise.need.rules import check_fact
from restwise.need.uses import BACK


def is_lines(program, value):
    """Whether the value is lines of the program."""
    check_program(program)
    return lines_read(program, value) is not None


def _heights_of(lines):
    """The heights of lines."""
    heights = []
    for _, _, uses in lines:
        heights.append(1 if uses == () else 1 + max([heights[use] for use in uses]))
    return heights


def leading_by(uses, indices):
    """These indices and all that lead to them, ascending; `uses` has a row of earlier indices for each index."""
    leading = {index: True for index in indices}
    for at in reversed(range(len(uses))):
        if at in leading:
            for use in uses[at]:
                leading[use] = True
    return sorted(leading)


def _shifted(lines, many):
    """Lines to stand behind so many others."""
    return tuple([(place, fact, tuple([use + many for use in uses])) for place, fact, uses in lines])


def _once(lines):
    """Lines in which those that tell the same by the same lines stand once."""
    kept = []
    firsts = {}
    numbers = []
    for place, fact, uses in lines:
        line = (place, fact, tuple([numbers[use] for use in uses]))
        if line not in firsts:
            firsts[line] = len(kept)
            kept.append(line)
        numbers.append(firsts[line])
    return tuple(kept)


class Lines:
    """Lines of a program. They never change."""

    def __init__(self, program, lines):
        check_program(program)
        found = lines_read(program, lines)
        if found is None:
            raise InvalidLines("these are no lines of the program")
        self._program = program
        self._lines = lines
        self._words = found[1]
        self._heights = _heights_of(lines)

    @property
    def program(self):
        """The program whose lines they are."""
        return self._program

    @property
    def lines(self):
        """The lines as a tuple."""
        return self._lines

    @property
    def place(self):
        """The place of the last line."""
        return self._lines[-1][0]

    @property
    def fact(self):
        """The fact of the last line."""
        return self._lines[-1][1]

    @property
    def height(self):
        """The height of the last line."""
        return self._heights[-1]

    def height_at(self, index):
        """The height of this line."""
        self._check_index(index)
        return self._heights[index]

    def upto(self, index):
        """This line as the last one, and those that lead to it."""
        self._check_index(index)
        kept = leading_by([uses for _, _, uses in self._lines], [index])
        numbers = {old: new for new, old in enumerate(kept)}
        rows = [self._lines[old] for old in kept]
        return Lines(self._program, tuple([(place, fact, tuple([numbers[use] for use in uses]))
                                           for place, fact, uses in rows]))

    def rule_at(self, index):
        """The word of the rule of this line."""
        self._check_index(index)
        return self._words[index]

    def followed_by(self, other):
        """The lines of both, those of the other one behind these."""
        if not isinstance(other, Lines) or other.program != self._program:
            raise InvalidOperation("the other ones are no lines of an equal program")
        if len(self._lines) + len(other.lines) > MAX_LINES:
            raise TooMany(MAX_LINES)
        return Lines(self._program, self._lines + _shifted(other.lines, len(self._lines)))

    def trimmed(self):
        """The lines that lead to the last one, each but once."""
        return Lines(self._program, _once(self.upto(len(self._lines) - 1).lines))

    def _check_index(self, index):
        if not is_integer(index) or not 0 <= index < len(self._lines):
            raise InvalidNumber(index)

    def __getitem__(self, index):
        self._check_index(index)
        return self._lines[index]

    def __len__(self):
        return len(self._lines)

    def __iter__(self):
        return iter(self._lines)

    def __contains__(self, value):
        return not has_boolean(value) and value in [(place, fact) for place, fact, _ in self._lines]

    def __eq__(self, other):
        if not isinstance(other, Lines):
            return False
        return self._program == other.program and self._lines == other.lines

    def __str__(self):
        return f"{len(self._lines)} lines, height {self._heights[-1]}"


def _checked_item(program, place, fact):
    """The item of a fact at a place, if it is one that this node can have."""
    check_program(program)
    number = program.shape.number_at(place)
    check_fact(program.shape, number, fact)
    return number, triple_of(bits_of(program.labels), fact)


def lines_to(program, items):
    """Lines that tell these items of the least table, and a dict from all items that they tell to their indices."""
    past = past_of(program)
    rows = items_to(past, items, MAX_LINES)
    if rows is None:
        raise TooMany(MAX_LINES)
    indices = {item: index for index, item in enumerate(rows)}
    spots = program.shape.spots
    lines = tuple([(spots[item[0]], GOES_BACK if item[1] == BACK else fact_from(past.bits, item[1]),
                    tuple([indices[used] for used in past.used(item)])) for item in rows])
    return lines, indices


def shown(program, place, fact):
    """Any lines with the least height that show, at this place, a fact by which this one is covered."""
    number, triple = _checked_item(program, place, fact)
    past = past_of(program)
    first = past.round_covering((number, triple))
    if first is None:
        raise InvalidOperation("no lines show the fact")
    return Lines(program, lines_to(program, [(number, first[1])])[0])


def is_shown(program, place, fact, value):
    """Whether the value is lines that show, at this place, a fact by which this one is covered."""
    _checked_item(program, place, fact)
    if not is_lines(program, value):
        return False
    last_place, last_fact, _ = value[-1]
    return last_place == place and last_fact != GOES_BACK and does_cover(fact, last_fact)


def round_of(program, place, fact):
    """The round of the fact, or None if the least table does not cover it."""
    item = _checked_item(program, place, fact)
    first = past_of(program).round_covering(item)
    return None if first is None else first[0]
