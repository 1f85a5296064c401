"""Values of every kind that a caller can pass [0.4], and codes for tests."""

from restwise.around.marks import Marks
from restwise.around.shown import trail_to
from restwise.around.standings import Standings
from restwise.base.codes import Code
from restwise.base.programs import Program
from restwise.errors import InvalidCode, ParseError, UnknownName
from restwise.need.families import Facts
from restwise.need.lines import Lines
from restwise.need.tables import Table
from restwise.run.marked import Marked, Marking
from restwise.run.runs import Run
from restwise.use.project import Project

PLAIN = Program.from_lines("get: done")
OBJECTS = (PLAIN, Run(PLAIN, "get"), Marking(PLAIN, {}), Marked(Run(PLAIN, "get"), Marking(PLAIN, {})), Facts.ask("get"), Table(PLAIN),
           Lines(PLAIN, ((("get", 0), ((), ("end",)), ()),)), Standings(PLAIN, "get"), Marks(PLAIN, "get"), trail_to(PLAIN, "get", ("come", ("get", 0))),
           Project())


def nested(kind, depth):
    value = "get"
    for _ in range(depth):
        value = {"get": value} if kind is dict else kind([value])
    return value


def every_kind():
    """Values of all kinds: each call of the package takes or refuses each of them."""
    return [
        None, True, False,
        0, 1, -1, 2, 39, 40, 10 ** 60 - 1, 1 - 10 ** 60, 10 ** 60, -(10 ** 60), 10 ** 99, -(10 ** 99),
        "", " ", "\n", "0", "1", "01", "get", "Get", "GET", "rest", "done", "handle", "get ", "get:", "or",
        "a b", "done done", "then done done", "handle get: done done rest", "x" * 9000, "1" * 9000,
        "done " * 1800, "~!@#$^&*()_+",
        (), ("done",), ("rest",), ("get",), ("get", "put"), ("put", "get"), ("ask", "get"), ("handle", "get"),
        (("done",),), (("rest",),), (["done"],), ("then", "done", "done"), (True, False), (1, 0), (True,) * 201,
        (None,), ((),), (1,), (0, 0), ("main", 0), (("done",),) * 41,
        [], ["done"], [("done",)], ["get"], [True], [1],
        {}, {"get": "put"}, {"get": Code.leaf("done")}, {1: 2}, {None: None}, {("get",): "put"}, {"get": []},
        nested(list, 8), nested(tuple, 8), nested(dict, 8),
        Code.leaf("done"), Code.leaf("rest"), (Code.leaf("done"),), [Code.leaf("done")], {"get": Code.leaf("ask", "get")},
        ParseError(None), UnknownName("get"), InvalidCode("no code"), *OBJECTS,
    ]


def frozen(value):
    """A picture of a value, by which a test sees whether the value has changed."""
    if isinstance(value, (list, tuple)):
        return (value.__class__.__name__, [frozen(item) for item in value])
    if isinstance(value, dict):
        return ("dict", [(frozen(key), frozen(item)) for key, item in value.items()])
    if isinstance(value, Code):
        return ("Code", value.nodes, value.text, value.loose)
    return (value.__class__.__name__, repr(value))
