"""Projects: functions, sayings about them that hold at all times, and changes that can be undone."""

from restwise.around.marks import Marks
from restwise.base.codes import Code
from restwise.base.programs import Program, check_program
from restwise.base.words import is_integer, is_name
from restwise.errors import InvalidNumber, InvalidOperation, InvalidWord, NothingToUndo, Refused, TooMany, UnknownName
from restwise.need.rules import least_table
from restwise.use.sayings import does_saying_hold, is_saying, news_of

MAX_SAYINGS = 10
MAX_CHANGES = 200
ARGUMENTS = {"put": 2, "remove": 1, "pin": 1, "unpin": 1}


class State:
    """All that a project is at one time. It never changes.

    `whole` is the program, None if there are no functions. `done_changes` has for each change that
    is in effect its word, and the program and the pinned sayings ahead of it; `undone` has for each
    one that can be done again, the last one first, its word and these behind it.
    """

    def __init__(self, whole, pinned, done_changes, undone):
        self.whole = whole
        self.pinned = pinned
        self.done_changes = done_changes
        self.undone = undone
        self.codes = {} if whole is None else whole.functions
        self.ordered = tuple(list(self.codes))


class Block:
    """Behind it a project is as it was ahead of it."""

    def __init__(self, project):
        self.same_project = project
        self.same_state = None

    def __enter__(self):
        self.same_state = self.same_project._state
        return self.same_project

    def __exit__(self, kind, value, trace):
        project = self.same_project
        project._state = self.same_state


def _is_change(value):
    """Whether the value is a tuple of the name of a change and its arguments."""
    if not isinstance(value, tuple) or len(value) == 0 or not isinstance(value[0], str):
        return False
    return value[0] in ARGUMENTS and len(value) == 1 + ARGUMENTS[value[0]]


def _check_many(many, rows):
    if not is_integer(many) or many < 0:
        raise InvalidNumber(many)
    if many > len(rows):
        raise NothingToUndo(many)


class Project:
    """Functions, and sayings about them that are pinned and hold at all times."""

    def __init__(self):
        self._state = State(None, (), (), ())

    @classmethod
    def holding(cls, program):
        """The project with the functions of a program, and no changes yet."""
        check_program(program)
        project = cls()
        project._state = State(program, (), (), ())
        return project

    @property
    def functions(self):
        """A dict from the names to the codes."""
        return {name: code for name, code in self._state.codes.items()}

    @property
    def sayings(self):
        """The pinned sayings, in the order in which they were pinned."""
        return self._state.pinned

    @property
    def log(self):
        """The words of the changes that are in effect."""
        return tuple([word for word, _, _ in self._state.done_changes])

    def put(self, name, code):
        """Adds a function, or replaces one."""
        if not is_name(name):
            raise InvalidWord("a function has a name")
        if not isinstance(code, Code):
            raise InvalidOperation("a function has a code")
        functions = self.functions
        functions[name] = code
        return self._change("put", functions, self._state.pinned)

    def remove(self, name):
        """Removes a function."""
        self._check_name(name)
        functions = self.functions
        functions.pop(name)
        return self._change("remove", functions, self._state.pinned)

    def pin(self, saying):
        """Pins a saying, which then holds at all times."""
        self._check_saying(saying)
        if saying in self._state.pinned:
            raise InvalidOperation("the saying is pinned already")
        return self._change("pin", None, self._state.pinned + (saying,))

    def unpin(self, saying):
        """Lets a pinned saying go."""
        self._check_saying(saying)
        if saying not in self._state.pinned:
            raise InvalidOperation("the saying is not pinned")
        return self._change("unpin", None, tuple([other for other in self._state.pinned if other != saying]))

    def does_hold(self, saying):
        """Whether a saying holds, pinned or not."""
        self._check_saying(saying)
        return does_saying_hold(self._state.whole, saying)

    def trial(self, *changes):
        """The news that changes would return, one behind the other."""
        if not all([_is_change(change) for change in changes]):
            raise InvalidOperation("a change is a tuple of the name of one and its arguments")
        with self.block() as same:
            return tuple([same._news_by(change) for change in changes])

    def block(self):
        """For a `with`: behind the block all is as ahead of it."""
        return Block(self)

    def during(self, call):
        """What a call returns for the project, which then is as it was."""
        with self.block() as same:
            return call(same)

    def undo(self, *, many=1):
        """Takes back the last changes."""
        state = self._state
        _check_many(many, state.done_changes)
        for _ in range(many):
            word, whole, pinned = state.done_changes[-1]
            state = State(whole, pinned, state.done_changes[:-1], state.undone + ((word, state.whole, state.pinned),))
        return self._go_to(state)

    def redo(self, *, many=1):
        """Does changes again that were taken back."""
        state = self._state
        _check_many(many, state.undone)
        for _ in range(many):
            word, whole, pinned = state.undone[-1]
            state = State(whole, pinned, state.done_changes + ((word, state.whole, state.pinned),), state.undone[:-1])
        return self._go_to(state)

    def made(self):
        """The program."""
        if self._state.whole is None:
            raise InvalidOperation("there are no functions")
        return self._state.whole

    def facts(self, name):
        """The facts of a function."""
        self._check_name(name)
        return least_table(self._state.whole)[(name, 0)]

    def lowest(self, name):
        """The least marking from a function."""
        self._check_name(name)
        return Marks(self._state.whole, name).least

    def twin(self):
        """An equal project with equal histories that changes by itself."""
        project = Project()
        project._state = self._state
        return project

    def _check_name(self, name):
        if name not in self:
            raise UnknownName(name)

    def _check_saying(self, saying):
        if not is_saying(saying, self._state.whole):
            raise InvalidOperation("this is no saying about functions of the project")

    def _news_by(self, change):
        """The news of a change that is told by its name and its arguments."""
        word = change[0]
        if word == "put":
            return self.put(change[1], change[2])
        if word == "remove":
            return self.remove(change[1])
        return self.pin(change[1]) if word == "pin" else self.unpin(change[1])

    def _change(self, word, functions, pinned):
        """Makes a change, if it can be made; no functions are told if they stay."""
        state = self._state
        if len(pinned) > MAX_SAYINGS:
            raise TooMany(MAX_SAYINGS)
        if len(state.done_changes) == MAX_CHANGES:
            raise TooMany(MAX_CHANGES)
        whole = state.whole if functions is None else _whole_of(functions, state.whole)
        _check_pinned(whole, pinned)
        return self._go_to(State(whole, pinned, state.done_changes + ((word, state.whole, state.pinned),), ()))

    def _go_to(self, state):
        """The project is as this state tells from now on; the news."""
        news = news_of(self._state.whole, state.whole)
        self._state = state
        return news

    def __getitem__(self, name):
        self._check_name(name)
        return self._state.codes[name]

    def __len__(self):
        return len(self._state.ordered)

    def __iter__(self):
        return iter(self._state.ordered)

    def __contains__(self, value):
        return isinstance(value, str) and value in self._state.codes

    def __eq__(self, other):
        if not isinstance(other, Project):
            return False
        return self.functions == other.functions and self.sayings == other.sayings

    def __str__(self):
        return f"project of {len(self._state.ordered)} functions, {len(self._state.pinned)} sayings"


def _whole_of(functions, before):
    """The program of these functions, None without any; if nothing is new, the one before, which knows its facts."""
    if not functions:
        return None
    whole = Program(functions)
    return before if whole == before else whole


def _check_pinned(whole, pinned):
    """Refuses a program of which a pinned saying does not tell, or in which it does not hold."""
    if not all([is_saying(saying, whole) for saying in pinned]):
        raise InvalidOperation("a function of a pinned saying is lacking")
    for saying in pinned:
        if not does_saying_hold(whole, saying):
            raise Refused(saying)
