"""Programs, and how they are put together and taken apart."""

from restwise.base.codes import DONE, Code, code_read, read_tree
from restwise.base.shapes import Shape, free_by_number
from restwise.base.words import MAX_LABELS, is_name
from restwise.errors import (InvalidCode, InvalidOperation, InvalidProgram, InvalidWord, ParseError, UnknownName,
                             UnknownPlace)

MAX_FUNCTIONS = 6
MAX_HANDLES = 8
MANY_LATEST = 4


def _is_functions(value):
    """Whether the value is a dict from one to six names to codes, complete and without loose rests."""
    if not isinstance(value, dict) or not 1 <= len(value) <= MAX_FUNCTIONS:
        return False
    if not all([is_name(name) and isinstance(code, Code) for name, code in value.items()]):
        return False
    if not all([code.is_plain and code.loose == () for code in value.values()]):
        return False
    return all([name in value for code in value.values() for name in code.calls])


def _is_sound(shape):
    """Whether a program can have this shape: not too much of anything, and all is quiet that must be."""
    if len(shape.label_names) > MAX_LABELS or len(shape.numbers_of("handle")) > MAX_HANDLES:
        return False
    if shape.quiet == ():
        return True
    free = free_by_number(shape)
    return all([free[number] == () for number in shape.quiet])


def _is_renaming(value, names):
    """Whether the value is a dict from just these names to names."""
    if not isinstance(value, dict) or len(value) != len(names):
        return False
    return all([name in value and is_name(value[name]) for name in names])


def _is_clear_renaming(value, names):
    """Whether the value is a dict from just these names to different names."""
    return _is_renaming(value, names) and len(set(list(value.values()))) == len(names)


def _read_line(line):
    """The name and the tree that a line tells; None if it is none."""
    if not isinstance(line, str):
        return None
    name, colon, text = line.partition(": ")
    tree = read_tree(text)
    if colon == "" or not is_name(name) or tree is None:
        return None
    return name, tree


def _code_of(tree):
    try:
        return code_read(tree)
    except InvalidCode:
        raise InvalidProgram("a text is that of no code") from None


class Program:
    """A program. It never changes."""

    def __init__(self, functions):
        if not _is_functions(functions):
            raise InvalidProgram("a program is a dict from one to six names to codes that call no others")
        shape = Shape({name: functions[name].tree for name in sorted(functions)})
        if not _is_sound(shape):
            raise InvalidProgram("there is no such program")
        self._functions = {name: functions[name] for name in sorted(functions)}
        self._shape = shape
        self._kept = {}
        self._latest = {}

    @classmethod
    def from_lines(cls, *lines):
        """The program with these lines, in any order."""
        rows = [_read_line(line) for line in lines]
        if None in rows:
            raise ParseError(rows.index(None))
        functions = {name: _code_of(tree) for name, tree in rows}
        if len(functions) != len(rows):
            raise InvalidProgram("a name stands twice")
        return cls(functions)

    @property
    def functions(self):
        """A dict from the names to the codes."""
        return {name: self._functions[name] for name in self._functions}

    @property
    def names(self):
        """The names of the functions, ascending."""
        return tuple(list(self._functions))

    @property
    def labels(self):
        """The labels of all asks and handles, ascending."""
        return self._shape.label_names

    @property
    def lines(self):
        """The lines of the functions, with ascending names."""
        return tuple([f"{name}: {code.text}" for name, code in self._functions.items()])

    @property
    def asks(self):
        """The places of all asks, ascending."""
        return self._places_of("ask")

    @property
    def handles(self):
        """The places of all handles, ascending."""
        return self._places_of("handle")

    @property
    def holds(self):
        """The places of all holds, ascending."""
        return self._places_of("hold")

    @property
    def rests(self):
        """The places of all rests, ascending."""
        return self._places_of("rest")

    @property
    def clauses(self):
        """The places of the tops of all clauses, ascending."""
        return self._shape.places_of(tuple(sorted(self._shape.homes)))

    @property
    def shape(self):
        """The nodes of all functions in one row."""
        return self._shape

    def kept(self, word, make):
        """What `make` tells of this program; it is worked out once for each word, as no program changes."""
        if word not in self._kept:
            self._kept[word] = make(self)
        return self._kept[word]

    def latest(self, word, key, make):
        """The same for what would be too much to keep for all keys: for each word only those of a few are kept."""
        found = self._latest.setdefault(word, {})
        if key not in found:
            made = make(self)
            if len(found) == MANY_LATEST:
                del found[list(found)[0]]
            found[key] = made
        return found[key]

    def node(self, place):
        """The node at this place."""
        return self._shape.forms[self._shape.number_at(place)]

    def clause(self, place, label):
        """The place of the top of the clause that this handle has for the label."""
        sides = self._shape.sides[self._shape.number_of(place, "handle")]
        if not isinstance(label, str) or label not in sides:
            raise UnknownName(label)
        return self._shape.spots[sides[label]]

    def callers(self, name):
        """The names of the functions that call this one, ascending."""
        self._check_name(name)
        return tuple([caller for caller, code in self._functions.items() if name in code.calls])

    def needed(self, name):
        """The names of the functions to which calls lead from this one, itself included, ascending."""
        self._check_name(name)
        seen = {name: True}
        ahead = [name]
        while ahead:
            fresh = [called for called in self._functions[ahead.pop()].calls if called not in seen]
            for called in fresh:
                seen[called] = True
                ahead.append(called)
        return tuple(sorted(seen))

    def free_labels(self, place):
        """The free labels of this node, ascending."""
        number = self._shape.number_at(place)
        return self.kept("free labels", lambda whole: free_by_number(whole.shape))[number]

    def is_quiet(self, place):
        """Whether this node has no free labels."""
        return self.free_labels(place) == ()

    def is_doubling(self, place):
        """Whether the clause with this top doubles."""
        number = self._shape.number_at(place)
        if number not in self._shape.homes:
            raise UnknownPlace(place)
        return number in self._shape.doubling

    def with_function(self, name, code):
        """The program with this function, instead of the one with this name, if there is one."""
        if not is_name(name):
            raise InvalidWord("a function has a name")
        if not isinstance(code, Code):
            raise InvalidOperation("a function has a code")
        functions = self.functions
        functions[name] = code
        return Program(functions)

    def without(self, name):
        """The program without this function."""
        self._check_name(name)
        return Program({other: code for other, code in self._functions.items() if other != name})

    def _check_name(self, name):
        if name not in self:
            raise UnknownName(name)

    def _places_of(self, word):
        return self._shape.places_of(self._shape.numbers_of(word))

    def __or__(self, other):
        if not isinstance(other, Program):
            raise InvalidOperation("the other operand is no program")
        mine, others = self.functions, other.functions
        if any([name in others and others[name] != code for name, code in mine.items()]):
            raise InvalidOperation("a name has two codes")
        return Program({**mine, **others})

    def __and__(self, other):
        if not isinstance(other, Program):
            raise InvalidOperation("the other operand is no program")
        mine, others = self.functions, other.functions
        return Program({name: code for name, code in mine.items() if name in others and others[name] == code})

    def __getitem__(self, name):
        self._check_name(name)
        return self._functions[name]

    def __len__(self):
        return len(self._functions)

    def __iter__(self):
        return iter(self._functions)

    def __contains__(self, value):
        return isinstance(value, str) and value in self._functions

    def __eq__(self, other):
        if not isinstance(other, Program):
            return False
        return self._functions == other.functions

    def __str__(self):
        return f"program of {len(self._functions)} functions, {len(self._shape.forms)} nodes"


def program_from(functions):
    """The program of a dict from names to codes, whatever names they have and however many they are."""
    program = Program({"f": Code(DONE)})
    program._functions = {name: functions[name] for name in sorted(functions)}
    program._shape = Shape({name: functions[name].tree for name in sorted(functions)})
    return program


def check_program(program):
    """Refuses what is no program."""
    if not isinstance(program, Program):
        raise InvalidProgram("this is no program")


def check_name(program, name):
    """Refuses what is not the name of a function of the program."""
    if name not in program:
        raise UnknownName(name)


def _renamed_code(code, functions, labels, steps):
    """The code with other names, by dicts that can tell more names than it has."""
    return code.renamed(
        labels={label: labels[label] for label in code.labels},
        calls={name: functions[name] for name in code.calls},
        steps={step: steps[step] for step in code.steps},
    )


def renamed(program, *, functions, labels, steps):
    """The program with other names."""
    check_program(program)
    if not _is_clear_renaming(functions, program.names):
        raise InvalidOperation("the functions are not renamed to different names")
    if not _is_clear_renaming(labels, program.labels):
        raise InvalidOperation("the labels are not renamed to different names")
    if not _is_renaming(steps, sorted({step for code in program.functions.values() for step in code.steps})):
        raise InvalidOperation("the steps are not renamed to names")
    codes = program.functions
    try:
        made = {functions[name]: _renamed_code(codes[name], functions, labels, steps) for name in codes}
    except InvalidCode:
        raise InvalidProgram("a code of a watched program is no code") from None
    return Program(made)


def inlined(program, place):
    """The program with the code of the called function in the place of a call."""
    check_program(program)
    number = program.shape.number_of(place, "call")
    called = program.shape.forms[number][1]
    name, index = place
    functions = program.functions
    try:
        functions[name] = program[name].with_part(index, program[called])
    except InvalidCode:
        raise InvalidProgram("this makes too many nodes") from None
    return Program(functions)
