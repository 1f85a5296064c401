"""The machine that makes a run, move by move."""

from restwise.run.piles import Frame, Piece, openings_in

ENDED = ("end",)
CUT = ("cut",)
TOO_MANY_TESTS = ("tests",)


class Machine:
    """A run from the node with a number, up to its end.

    A test behind the world takes its first child if `usual` is True. A test beyond `most`, if
    this is not None, ends the run.
    """

    def __init__(self, shape, start, world, given, limit, most=None, usual=True):
        self.shape = shape
        self.world = world
        self.given = given
        self.limit = limit
        self.most = most
        self.usual = usual
        self.owners = [None]
        self.layers = [Frame("begin", start, None)]
        self.behind = None
        self.openings = 0
        self.row = []
        self.count = 0
        self.turns = []
        self.asked = []
        self.steps = []
        self.begun = {}
        self.end = None
        while self.end is None:
            self._go_on()

    def _go_on(self):
        frame = self.layers[-1]
        if frame is None:
            self._end_work()
        elif frame.word in ("begin", "last"):
            self._begin(frame)
        else:
            self.layers[-1] = frame.below
            self._leave(frame)

    def _tell(self, word, number):
        self.row.append((word, self.shape.places[number]))

    def _tell_holds(self, word, openings):
        self.row.extend([(word, self.shape.places[number]) for _, number in openings])

    def _push(self, word, number, count=0, piece=None):
        self.layers[-1] = Frame(word, number, self.layers[-1], count, piece)

    def _end_work(self):
        """The handle goes, and its last part is to begin; the lowest layer has none."""
        self.layers.pop()
        handle = self.owners.pop()
        if handle is None:
            self.end = ENDED
        else:
            self._push("last", handle)

    def _leave(self, frame):
        """Something that is no node has its turn."""
        if frame.word == "close":
            self._tell("close", frame.number)
        elif frame.word == "wait":
            self._tell("ended", frame.number)
            self.behind = frame.number
        else:
            self.behind = None
            if frame.count == 0:
                self._tell("drop", frame.number)
                self._tell_holds("lost", frame.piece.open_holds())

    def _begin(self, frame):
        """A node begins, unless the run is cut ahead of it."""
        is_last = frame.word == "last"
        number = self.shape.below[frame.number][1] if is_last else frame.number
        node = self.shape.nodes[number]
        if self.count == self.limit:
            self.end = CUT
        elif node[0] == "test" and len(self.turns) == self.most:
            self.end = TOO_MANY_TESTS
        else:
            self.layers[-1] = frame.below
            self.count = self.count + 1
            self.begun[number] = True
            if is_last:
                self._tell("last", frame.number)
            if self.behind is not None and node[0] not in ("done", "then"):
                self._tell("behind", self.behind)
                self.behind = None
            self._do(node, number)

    def _do(self, node, number):
        """What the node itself does; done does nothing."""
        word = node[0]
        if word == "then":
            self._push("begin", self.shape.below[number][1])
            self._push("begin", self.shape.below[number][0])
        elif word == "step":
            self._tell("step", number)
            self.steps.append(node[1])
        elif word == "call":
            self._push("begin", self.shape.starts[node[1]])
        elif word == "ask":
            self._ask(node[1], number)
        elif word == "rest":
            self._rest(number)
        elif word == "test":
            self._push("begin", self.shape.below[number][0 if self._turn() else 1])
        elif word == "hold":
            self._hold(number)
        elif word == "handle":
            self.owners.append(number)
            self.layers.append(Frame("begin", self.shape.below[number][0], None))

    def _turn(self):
        """The way that the next test takes."""
        tests = len(self.turns)
        turn = self.world[tests] if tests < len(self.world) else self.usual
        self.turns.append(turn)
        return turn

    def _hold(self, number):
        self.openings = self.openings + 1
        self._tell("open", number)
        self._push("close", number, self.openings)
        self._push("begin", self.shape.below[number][0])

    def _answering(self, label):
        """The index of the topmost layer whose handle answers the label; 0 if none does."""
        at = len(self.owners) - 1
        while at > 0 and label not in self.shape.nodes[self.owners[at]]:
            at = at - 1
        return at

    def _ask(self, label, number):
        place = self.shape.places[number]
        at = self._answering(label)
        if at > 0:
            handle = self.owners[at]
            self.row.append(("ask", place, self.shape.places[handle]))
            self._answer(at, self.shape.sides_of(handle)[label])
        elif label in self.given:
            self.row.append(("ask", place, ()))
            self.asked.append(label)
        else:
            self._tell_holds("left", openings_in(self.layers))
            self.end = ("stop", place)

    def _answer(self, at, top):
        """The layers from this index on are cut off, and the clause with this top runs on the others."""
        piece = Piece(self.owners[at:], self.layers[at:])
        del self.owners[at:]
        del self.layers[at:]
        self._push("clause", top, 0, piece)
        self._push("begin", top)

    def _rest(self, number):
        """The clause counts the rest and waits behind it; a copy of its piece goes on above."""
        waiting = []
        frame = self.layers[-1]
        while frame.word != "clause":
            waiting.append(frame.number)
            frame = frame.below
        many = frame.count + 1
        self.layers[-1] = frame.below
        self._push("clause", frame.number, many, frame.piece)
        for later in waiting[::-1]:
            self._push("begin", later)
        self._push("wait", number)
        self.row.append(("rest", self.shape.places[number], many))
        if many > 1:
            self._tell_holds("shared", frame.piece.open_holds())
        self.owners.extend(frame.piece.owners)
        self.layers.extend(frame.piece.layers)
