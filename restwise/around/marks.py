"""Right marks from a first function."""

from restwise.around.standings import Standings, least_paper, paper_events
from restwise.base.programs import check_name, check_program
from restwise.errors import InvalidMarking, InvalidOperation, UnknownPlace
from restwise.run.marked import MARKS, Marking, is_mark, is_marking_of

# The words of the events that make a mark wrong; those of rests stand beside those of clauses.
AGAINST = {"place": ("drop", "behind"), "jump": ("rest",), "move": ("again",), "copy": ()}


def _clause_of(program, event):
    """The place of the clause which an event of a rest or a drop concerns."""
    shape = program.shape
    number = shape.numbers[event[1]]
    return event[1] if event[0] == "drop" else shape.spots[shape.owners[number]]


def _against_by(program, events):
    """A dict from the pairs (clause, mark) to the events that make the mark wrong, ascending."""
    found = {(clause, mark): [] for clause in program.clauses for mark in MARKS}
    for event in events:
        for mark in MARKS:
            if event[0] in AGAINST[mark]:
                found[(_clause_of(program, event), mark)].append(event)
    return found


def _wrong_by(marking, against):
    """The clauses, ascending, whose marks are wrong by these events."""
    return tuple([clause for clause, mark in marking.marks.items() if against[(clause, mark)]])


class Marks:
    """The right marks of a program from a first function. It never changes."""

    def __init__(self, program, name):
        check_program(program)
        check_name(program, name)
        self._standings = Standings(program, name)
        self._against = _against_by(program, self._standings.events)
        self._program = program
        self._name = name
        self._rights = {clause: self._right_marks(clause) for clause in program.clauses}
        self._least = Marking(program, {clause: marks[0] for clause, marks in self._rights.items()})

    @property
    def program(self):
        """The program."""
        return self._program

    @property
    def name(self):
        """The name of the first function."""
        return self._name

    @property
    def standings(self):
        """The standings from the first function."""
        return self._standings

    @property
    def least(self):
        """The marking that gives each clause its lowest right mark."""
        return self._least

    def right(self, clause):
        """The right marks of a clause, the lowest first."""
        self._check_clause(clause)
        return self._rights[clause]

    def against(self, clause, mark):
        """The events, ascending, that make this mark wrong for the clause."""
        self._check_clause(clause)
        if not is_mark(mark):
            raise InvalidMarking("there is no such mark")
        return tuple(self._against[(clause, mark)])

    def is_alike(self, value):
        """Whether the value is an alike marking of the program."""
        return is_marking_of(self._program, value) and _wrong_by(value, self._against) == ()

    def wrong(self, marking):
        """The clauses, ascending, whose marks are wrong."""
        self._check_marking(marking)
        return _wrong_by(marking, self._against)

    def mended(self, marking):
        """The marking in which each wrong mark is replaced by the lowest right one that is higher."""
        self._check_marking(marking)
        marks = {clause: self._mended_mark(clause, mark) for clause, mark in marking.marks.items()}
        return Marking(self._program, marks)

    def _mended_mark(self, clause, mark):
        """The lowest right mark from this one on."""
        return [higher for higher in MARKS[MARKS.index(mark):] if higher in self._rights[clause]][0]

    def _right_marks(self, clause):
        return tuple([mark for mark in MARKS if not self._against[(clause, mark)]])

    def _check_clause(self, clause):
        if clause not in self:
            raise UnknownPlace(clause)

    def _check_marking(self, marking):
        if not is_marking_of(self._program, marking):
            raise InvalidMarking("this is no marking of an equal program")

    def __getitem__(self, clause):
        self._check_clause(clause)
        return self._rights[clause][0]

    def __contains__(self, value):
        return self._program.shape.has_place(value) and value in self._rights

    def __len__(self):
        return len(self._rights)

    def __iter__(self):
        return iter(self._rights)

    def __eq__(self, other):
        if not isinstance(other, Marks):
            return False
        return self._program == other.program and self._name == other.name

    def __str__(self):
        return str(self._least)


def alike_paper(program, name, marking):
    """Any pair of a closed table and a set that shows that a marking is alike: the least ones."""
    _check_all(program, name, marking)
    if not Marks(program, name).is_alike(marking):
        raise InvalidOperation("the marking is not alike")
    return least_paper(program, name)


def is_alike_paper(program, name, marking, value):
    """Whether the value is a pair of a closed table and a set that tells no event against the marking."""
    _check_all(program, name, marking)
    events = paper_events(program, name, value)
    return events is not None and _wrong_by(marking, _against_by(program, events)) == ()


def _check_all(program, name, marking):
    check_program(program)
    check_name(program, name)
    if not is_marking_of(program, marking):
        raise InvalidMarking("this is no marking of an equal program")
