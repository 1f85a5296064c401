"""Runs of programs in worlds."""

from restwise.base.programs import check_name, check_program
from restwise.base.words import has_boolean, is_ascending, is_integer, is_world
from restwise.errors import InvalidNumber, InvalidOperation, InvalidWorld
from restwise.run.machine import TOO_MANY_TESTS, Machine

MAX_MOVES = 20000
MAX_TESTS = 12


def _check_given(program, given):
    if not isinstance(given, tuple) or not all([isinstance(label, str) for label in given]):
        raise InvalidOperation("the given labels are no tuple of labels")
    if not is_ascending(given) or not all([label in program.labels for label in given]):
        raise InvalidOperation("the given labels are not ascending, or none of the program")


def _check_upto(number, most):
    """Refuses what is no integer from 0 up to this one."""
    if not is_integer(number) or not 0 <= number <= most:
        raise InvalidNumber(number)


class Run:
    """A run from a function in a world. It never changes."""

    def __init__(self, program, name, world=(), *, given=(), moves=2000):
        check_program(program)
        check_name(program, name)
        if not is_world(world):
            raise InvalidWorld("a world is a tuple of at most 200 booleans")
        _check_given(program, given)
        _check_upto(moves, MAX_MOVES)
        self._program = program
        self._name = name
        self._given = given
        self._take(world, Machine(program.shape, program.shape.starts[name], world, given, moves))

    def _take(self, world, machine):
        """The run is the one that the machine has made in this world."""
        self._world = world
        self._row = tuple(machine.happened)
        self._end = machine.outcome
        self._moves = machine.moved
        self._tests = len(machine.turns)
        self._asked = tuple(machine.let_asks)
        self._places = machine.form.places_of(sorted(machine.begun))
        self._steps = tuple(machine.done_steps)
        self._repeated = machine.form.places_of(sorted(machine.again_rests))

    @property
    def program(self):
        """The program that runs."""
        return self._program

    @property
    def name(self):
        """The name of the first function."""
        return self._name

    @property
    def world(self):
        """The world in which it runs."""
        return self._world

    @property
    def given(self):
        """The labels that are given to it."""
        return self._given

    @property
    def row(self):
        """What happens, in order."""
        return self._row

    @property
    def end(self):
        """How it ends."""
        return self._end

    @property
    def moves(self):
        """The number of moves made."""
        return self._moves

    @property
    def tests(self):
        """The number of tests that have begun."""
        return self._tests

    @property
    def asked(self):
        """The labels of the asks that were given, in order."""
        return self._asked

    @property
    def places(self):
        """The places of the nodes that have begun, ascending."""
        return self._places

    @property
    def steps(self):
        """The names of the steps, in order."""
        return self._steps

    @property
    def repeated(self):
        """The places, ascending, of the ended rests behind which the same clause has come to a further rest."""
        return self._repeated

    def first(self, event):
        """The index of the first such event in the row, or None."""
        return self._row.index(event) if event in self else None

    def __getitem__(self, index):
        _check_upto(index, len(self._row) - 1)
        return self._row[index]

    def __len__(self):
        return len(self._row)

    def __iter__(self):
        return iter(self._row)

    def __contains__(self, value):
        return not has_boolean(value) and value in self._row

    def __eq__(self, other):
        if not isinstance(other, Run):
            return False
        mine = (self._program, self._name, self._given, self._row, self._end)
        return mine == (other.program, other.name, other.given, other.row, other.end)

    def __str__(self):
        return f"{self._moves} moves, {len(self._row)} events, {self._end[0]}"


def _next_turns(turns):
    """The beginning of the next world behind all that begin with these turns; None behind the last one."""
    falses = [index for index, turn in enumerate(turns) if not turn]
    if not falses:
        return None
    return tuple(turns[:falses[-1]]) + (True,)


def all_runs(program, name, tests, *, given=(), moves=200):
    """The runs in all worlds of at most so many booleans that use up their worlds, by ascending worlds."""
    check_program(program)
    check_name(program, name)
    _check_upto(tests, MAX_TESTS)
    _check_given(program, given)
    _check_upto(moves, MAX_MOVES)
    turns = ()
    while turns is not None:
        machine = Machine(program.shape, program.shape.starts[name], turns, given, moves, tests, False)
        if machine.outcome != TOO_MANY_TESTS:
            yield _run_of(program, name, given, machine)
        turns = _next_turns(machine.turns)


def _run_of(program, name, given, machine):
    """The run that a machine has made in the world of its turns."""
    run = Run(program, name, given=given, moves=0)
    run._take(tuple(machine.turns), machine)
    return run
