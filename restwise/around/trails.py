"""Trails, which show how an event happens."""

from restwise.around.points import PointJudge, events_told
from restwise.around.spreads import bare_ground
from restwise.base.programs import check_name, check_program
from restwise.base.words import is_integer
from restwise.errors import InvalidLines, InvalidNumber
from restwise.need.lines import leading_by
from restwise.need.reading import lines_read

MAX_POINTS = 20000


def _judge_of(program, name, value):
    """A judge that has taken all points of the value; None if it is no trail."""
    if not isinstance(value, tuple) or len(value) != 2:
        return None
    lines, points = value
    if not isinstance(points, tuple) or not 1 <= len(points) <= MAX_POINTS:
        return None
    found = ([], []) if isinstance(lines, tuple) and len(lines) == 0 else lines_read(program, lines)
    if found is None:
        return None
    judge = PointJudge(bare_ground(program), program.shape.starts[name], found[0])
    for point in points:
        if not judge.takes(point):
            return None
    return judge


def is_trail(program, name, value):
    """Whether the value is a trail from this function."""
    check_program(program)
    check_name(program, name)
    return _judge_of(program, name, value) is not None


def last_events(program, name, value):
    """The events that the last point of a trail tells, ascending; none if the value is no trail from this function."""
    judge = _judge_of(program, name, value)
    return () if judge is None else _events_by(judge, len(judge.judged) - 1)


def _events_by(judge, index):
    word, number, at, _ = judge.judged[index]
    return events_told(judge.ground, word, number, at)


def _numbered(numbers, indices):
    return tuple([numbers[index] for index in indices])


def _rows_upto(lines, points, index):
    """The lines and the points that lead to this point, told by their new indices."""
    kept = leading_by([point[3] for point in points], [index])
    point_numbers = {old: new for new, old in enumerate(kept)}
    kept_lines = leading_by([uses for _, _, uses in lines], [fact for old in kept for fact in points[old][4]])
    line_numbers = {old: new for new, old in enumerate(kept_lines)}
    rows = [points[old] for old in kept]
    line_rows = [lines[old] for old in kept_lines]
    return (tuple([(place, fact, _numbered(line_numbers, uses)) for place, fact, uses in line_rows]),
            tuple([(word, place, context, _numbered(point_numbers, ahead), _numbered(line_numbers, facts))
                   for word, place, context, ahead, facts in rows]))


class Trail:
    """A trail from a function. It never changes."""

    def __init__(self, program, name, lines, points):
        check_program(program)
        check_name(program, name)
        judge = _judge_of(program, name, (lines, points))
        if judge is None:
            raise InvalidLines("this is no trail from this function")
        self._program = program
        self._name = name
        self._lines = lines
        self._points = points
        self._judge = judge

    @property
    def program(self):
        """The program."""
        return self._program

    @property
    def name(self):
        """The name of the first function."""
        return self._name

    @property
    def lines(self):
        """The lines, or ()."""
        return self._lines

    @property
    def points(self):
        """The points."""
        return self._points

    def told(self):
        """The events, ascending, that the last point tells."""
        return self.events_at(len(self._points) - 1)

    def events_at(self, index):
        """The events, ascending, that this point tells."""
        self._check_index(index)
        return _events_by(self._judge, index)

    def upto(self, index):
        """The trail with this point as the last one, and what leads to it."""
        self._check_index(index)
        lines, points = _rows_upto(self._lines, self._points, index)
        return Trail(self._program, self._name, lines, points)

    def _check_index(self, index):
        if not is_integer(index) or not 0 <= index < len(self._points):
            raise InvalidNumber(index)

    def __getitem__(self, index):
        self._check_index(index)
        return self._points[index]

    def __len__(self):
        return len(self._points)

    def __iter__(self):
        return iter(self._points)

    def __eq__(self, other):
        if not isinstance(other, Trail):
            return False
        mine = (self._program, self._name, self._lines, self._points)
        return mine == (other.program, other.name, other.lines, other.points)

    def __str__(self):
        word, place = self._points[-1][:2]
        return f"{len(self._points)} points, {len(self._lines)} lines, {word} {place}"
