"""Closed tables, which show that something never happens."""

from restwise.base.programs import check_name, check_program
from restwise.base.words import has_boolean
from restwise.errors import InvalidOperation, InvalidTable
from restwise.need.families import bits_of, family_in
from restwise.need.growing import closed_around
from restwise.need.makings import backs_by, family_made
from restwise.need.masks import is_family_within, met, united
from restwise.need.rules import check_fact, families_of, is_table, least_table, rows_of


def is_closed(program, value):
    """Whether the value is a closed table of the program."""
    if not is_table(program, value):
        return False
    shape, bits = program.shape, bits_of(program.labels)
    families = families_of(program, value)
    backs = backs_by(shape, families)
    return all([is_family_within(family_made(shape, bits, number, families, backs), family)
                for number, family in enumerate(families)])


def _closed_around(program, families):
    """The closed table around these families that is within all others."""
    return Table(program, rows_of(program, closed_around(program.shape, bits_of(program.labels), families)))


class Table:
    """A closed table of a program. It never changes."""

    def __init__(self, program, rows=None):
        check_program(program)
        if rows is not None and not is_closed(program, rows):
            raise InvalidTable("this is no closed table of the program")
        known = least_table(program) if rows is None else rows
        self._program = program
        self._rows = {place: known[place] for place in program.shape.spots}
        self._each = tuple([(place, fact) for place, facts in self._rows.items() for fact in facts])

    @property
    def program(self):
        """The program whose table it is."""
        return self._program

    @property
    def rows(self):
        """A dict from all places to their facts."""
        return {place: facts for place, facts in self._rows.items()}

    def is_least(self):
        """Whether it is the least table."""
        return self._rows == least_table(self._program)

    def of(self, name):
        """The facts of a function."""
        check_name(self._program, name)
        return self._rows[(name, 0)]

    def covers(self, place, fact):
        """Whether the facts at this place cover this one."""
        check_fact(self._program.shape, self._program.shape.number_at(place), fact)
        return self._rows[place].has_covering(fact)

    def assuming(self, place, *facts):
        """The least closed table around this one and these facts of the node."""
        number = self._program.shape.number_at(place)
        for fact in facts:
            check_fact(self._program.shape, number, fact)
        families = self._families()
        families[number] = united([families[number], family_in(bits_of(self._program.labels), facts)])
        return _closed_around(self._program, families)

    def joined(self, other):
        """The least closed table around both."""
        return _closed_around(self._program, [united([mine, others]) for mine, others in self._beside(other)])

    def common(self, other):
        """The table of the facts that both cover, which is closed, too."""
        return Table(self._program, rows_of(self._program, [met(mine, others) for mine, others in self._beside(other)]))

    def is_within(self, other):
        """Whether the other table covers each fact of this one."""
        return all([is_family_within(mine, others) for mine, others in self._beside(other)])

    def each(self):
        """The pairs (place, fact), places ascending."""
        for pair in self._each:
            yield pair

    def _families(self):
        return families_of(self._program, self._rows)

    def _beside(self, other):
        """For each place, ascending, the families of both."""
        if not isinstance(other, Table) or other.program != self._program:
            raise InvalidOperation("the other one is no table of an equal program")
        return list(zip(self._families(), families_of(self._program, other.rows)))

    def __getitem__(self, place):
        self._program.shape.number_at(place)
        return self._rows[place]

    def __len__(self):
        return len(self._each)

    def __iter__(self):
        raise TypeError("a table is not iterated over")

    def __contains__(self, value):
        return not has_boolean(value) and value in self._each

    def __eq__(self, other):
        if not isinstance(other, Table):
            return False
        return self._program == other.program and self._rows == other.rows

    def __str__(self):
        places = [place for place, facts in self._rows.items() if facts]
        return f"{len(self._each)} facts at {len(places)} places"


def _number_checked(program, place, fact):
    """The number of the place, if the fact is one that this node can have."""
    check_program(program)
    number = program.shape.number_at(place)
    check_fact(program.shape, number, fact)
    return number


def denial(program, place, fact):
    """Any closed table that does not cover the fact: the least one."""
    _number_checked(program, place, fact)
    rows = least_table(program)
    if rows[place].has_covering(fact):
        raise InvalidOperation("each closed table covers the fact")
    return rows


def is_denial(program, place, fact, value):
    """Whether the value is a closed table that does not cover the fact."""
    _number_checked(program, place, fact)
    return is_closed(program, value) and not value[place].has_covering(fact)
