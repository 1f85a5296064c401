"""Markings, and runs under a marking."""

from restwise.base.programs import check_program
from restwise.base.words import is_integer
from restwise.errors import InvalidMarking, InvalidNumber, InvalidOperation, UnknownPlace
from restwise.run.runs import Run

MARKS = ("place", "jump", "move", "copy")
REST_DEEDS = {"place": 0, "jump": 0, "move": 1, "copy": 2}


def is_mark(value):
    """Whether the value is a mark."""
    return isinstance(value, str) and value in MARKS


def _is_marks(program, value):
    """Whether the value is a dict from just the clauses of the program to marks."""
    if not isinstance(value, dict) or len(value) != len(program.clauses):
        return False
    return all([clause in value and is_mark(value[clause]) for clause in program.clauses])


def _lower(one, other):
    """The lower one of two marks."""
    return one if MARKS.index(one) <= MARKS.index(other) else other


def _higher(one, other):
    """The higher one of two marks."""
    return other if MARKS.index(one) <= MARKS.index(other) else one


class Marking:
    """A marking of a program. It never changes."""

    def __init__(self, program, marks):
        check_program(program)
        if not _is_marks(program, marks):
            raise InvalidMarking("marks are a dict from just the clauses of the program to marks")
        self._program = program
        self._marks = {clause: marks[clause] for clause in program.clauses}

    @classmethod
    def uniform(cls, program, mark):
        """The marking that gives all clauses this mark."""
        check_program(program)
        if not is_mark(mark):
            raise InvalidMarking("there is no such mark")
        return cls(program, {clause: mark for clause in program.clauses})

    @property
    def program(self):
        """The program whose clauses have marks."""
        return self._program

    @property
    def marks(self):
        """A dict from the clauses to their marks."""
        return {clause: mark for clause, mark in self._marks.items()}

    def with_mark(self, clause, mark):
        """The marking with another mark for this clause."""
        self._check_clause(clause)
        if not is_mark(mark):
            raise InvalidMarking("there is no such mark")
        marks = self.marks
        marks[clause] = mark
        return Marking(self._program, marks)

    def is_lower(self, value):
        """Whether the value is a marking of an equal program in which no mark is lower than here."""
        if not is_marking_of(self._program, value):
            return False
        others = value.marks
        return all([_lower(mark, others[clause]) == mark for clause, mark in self._marks.items()])

    def _check_clause(self, clause):
        if not self._program.shape.has_place(clause) or clause not in self._marks:
            raise UnknownPlace(clause)

    def _check_other(self, other):
        if not is_marking_of(self._program, other):
            raise InvalidOperation("the other operand is no marking of an equal program")

    def __and__(self, other):
        self._check_other(other)
        others = other.marks
        return Marking(self._program, {clause: _lower(mark, others[clause]) for clause, mark in self._marks.items()})

    def __or__(self, other):
        self._check_other(other)
        others = other.marks
        return Marking(self._program, {clause: _higher(mark, others[clause]) for clause, mark in self._marks.items()})

    def __getitem__(self, clause):
        self._check_clause(clause)
        return self._marks[clause]

    def __len__(self):
        return len(self._marks)

    def __iter__(self):
        return iter(self._marks)

    def __eq__(self, other):
        if not isinstance(other, Marking):
            return False
        return self._program == other.program and self._marks == other.marks

    def __str__(self):
        many = {mark: len([1 for other in self._marks.values() if other == mark]) for mark in MARKS}
        return ", ".join([f"{many[mark]} {mark}" for mark in MARKS])


def is_marking_of(program, value):
    """Whether the value is a marking of an equal program."""
    return isinstance(value, Marking) and value.program == program


def _clause_at(program, event):
    """The place of the clause that an ask, a rest, a behind or a drop concerns; None for other events."""
    if event[0] == "ask":
        return program.clause(event[2], program.node(event[1])[1]) if event[2] != () else None
    if event[0] in ("rest", "behind"):
        shape = program.shape
        return shape.spots[shape.owners[shape.number_at(event[1])]]
    return event[1] if event[0] == "drop" else None


def _does_break(event, mark):
    """Whether a clause with this mark breaks the run by this event; events of no clause have no mark."""
    if mark == "place":
        return event[0] in ("drop", "behind")
    if event[0] != "rest":
        return False
    return mark == "jump" or (mark == "move" and event[2] >= 2)


def _deeds_of(event, mark):
    """The number of deeds that an event of a clause with this mark takes."""
    if event[0] == "rest":
        return REST_DEEDS[mark]
    return 1 if event[0] == "ask" and mark != "place" else 0


def _first_break(rows):
    """The index of the first event that breaks the run, and its clause; None if none does."""
    for index, (event, clause, mark) in enumerate(rows):
        if _does_break(event, mark):
            return (index, clause)
    return None


def _sums_of(numbers):
    """The sums of no number, of the first one, and so on."""
    found = [0]
    for number in numbers:
        found.append(found[-1] + number)
    return tuple(found)


def _costs_of(marking, rows):
    """A dict from the clauses to the deeds that these events take of them."""
    costs = {clause: 0 for clause in marking}
    for event, clause, mark in rows:
        if clause is not None:
            costs[clause] = costs[clause] + _deeds_of(event, mark)
    return costs


class Marked:
    """A run under a marking, up to its first break. It never changes."""

    def __init__(self, run, marking):
        if not isinstance(run, Run):
            raise InvalidOperation("this is no run")
        if not is_marking_of(run.program, marking):
            raise InvalidMarking("this is no marking of an equal program")
        clauses = [_clause_at(run.program, event) for event in run]
        marks = [None if clause is None else marking[clause] for clause in clauses]
        rows = list(zip(run, clauses, marks))
        self._run = run
        self._marking = marking
        self._broken = _first_break(rows)
        whole = rows if self._broken is None else rows[:self._broken[0]]
        self._sums = _sums_of([0 if clause is None else _deeds_of(event, mark) for event, clause, mark in whole])
        self._costs = _costs_of(marking, whole)

    @property
    def run(self):
        """The plain run."""
        return self._run

    @property
    def marking(self):
        """The marking."""
        return self._marking

    @property
    def broken(self):
        """The index of the event at which the run breaks and the clause, or None."""
        return self._broken

    @property
    def deeds(self):
        """The number of all deeds ahead of the break."""
        return self._sums[-1]

    @property
    def costs(self):
        """A dict from the clauses to their deeds ahead of the break."""
        return {clause: cost for clause, cost in self._costs.items()}

    def deeds_ahead(self, index):
        """The number of the deeds of the events ahead of this index."""
        if not is_integer(index) or not 0 <= index < len(self._sums):
            raise InvalidNumber(index)
        return self._sums[index]

    def __eq__(self, other):
        if not isinstance(other, Marked):
            return False
        return self._run == other.run and self._marking == other.marking

    def __str__(self):
        end = "not broken" if self._broken is None else f"broken at {self._broken[0]}"
        return f"{self._sums[-1]} deeds, {end}"
