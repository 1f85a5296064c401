"""Random programs for tests, and the programs of the document's examples."""

import random

from restwise.base.codes import Code, is_code
from restwise.base.programs import Program
from restwise.errors import InvalidProgram

LOG = Program.from_lines("main: handle get: then ask get then step a then ask get step b done then step g rest")
FLIP = Program.from_lines("coin: ask or", "main: handle or: then call coin step p done then rest rest")
INNER = Program.from_lines("f: then ask a ask b", "in: handle a: call f done then rest step z", "loop: call loop",
                           "main: handle b: call in done then rest call loop")
OUTER = Program.from_lines("f: then ask a ask b", "in: handle b: call f done then rest call loop", "loop: call loop",
                           "main: handle a: call in done then rest step z")
LOSE = Program.from_lines("main: handle a: call mid done done", "mid: handle b: hold ask b done then ask a rest")
EXAMPLES = {"LOG": LOG, "FLIP": FLIP, "INNER": INNER, "OUTER": OUTER, "LOSE": LOSE}


class Chance:
    """Draws random codes, in which rests stand where they may and seldom ahead of what is not quiet."""

    def __init__(self, seed, labels=("a", "b"), names=("f", "g", "main"), holds=1, doubling=0.3, calls=1):
        self.random = random.Random(seed)
        self.labels, self.names, self.holds, self.doubling, self.calls = labels, names, holds, doubling, calls

    def leaf(self, free, resting):
        words = [("done",), ("step", self.random.choice("pq"))]
        if "loop" in self.names:
            words = words + [("call", "loop")]
        if free:
            words = words + [("ask", label) for label in free] * 2 + [("call", name) for name in self.names] * self.calls
        if resting:
            words = words + [("rest",)] * 8
        return (self.random.choice(words),)

    def split(self, size, parts):
        """Sizes of so many parts, each at least 1, of about this size in all."""
        sizes = [1] * parts
        for _ in range(max(0, size - parts)):
            sizes[self.random.randrange(parts)] += 1
        return sizes

    def code(self, size, free, resting=False, twice=False):
        """A code; only the labels of `free` are asked where nothing answers, and rests are lets by `resting`."""
        if size <= 1:
            return self.leaf(free, resting)
        form = self.random.choice(["then"] * 4 + ["test"] * 2 + ["hold"] * self.holds + ["handle"] * 2)
        if resting and form in ("hold", "handle") and self.random.random() < 0.7:
            form = "then"
        if form == "handle":
            return self.handle(size, free)
        if form == "hold":
            return (("hold",),) + self.code(size - 1, free)
        one, two = self.split(size - 1, 2)
        first = self.code(one, free, resting, twice)
        if form == "test":
            return (("test",),) + first + self.code(two, free, resting, twice)
        has_rest = resting and ("rest",) in first
        return (("then",),) + first + self.code(two, () if has_rest else free, resting and (twice or not has_rest), twice)

    def handle(self, size, free):
        many = self.random.choice([1, 1, 1, 2, min(2, len(self.labels)), len(self.labels)])
        labels = tuple(sorted(self.random.sample(self.labels, min(many, len(self.labels)))))
        sizes = self.split(size - 1, 2 + len(labels))
        twice = self.random.random() < self.doubling
        free = () if twice else free
        inside = tuple(sorted(set(free) | set(labels)))
        parts = [self.code(sizes[0], inside), self.code(sizes[1], free)]
        parts = parts + [self.code(part, free, True, twice) for part in sizes[2:]]
        return (("handle",) + labels,) + sum(parts, ())

    def sound_code(self, size):
        while True:
            nodes = self.code(self.random.randrange(max(1, size // 2), size + 1), self.labels)
            if is_code(nodes):
                return Code(nodes)

    def program(self, size):
        """A program with functions of about this size each; `loop` calls itself only."""
        while True:
            functions = {name: self.sound_code(size) for name in self.names if name != "loop"}
            if "loop" in self.names:
                functions["loop"] = Code.leaf("call", "loop")
            try:
                return Program(functions)
            except InvalidProgram:
                pass


def random_programs(seed, many, size, **more):
    chance = Chance(seed, **more)
    return [chance.program(size) for _ in range(many)]
