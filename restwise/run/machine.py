"""The machine that makes a run, move by move."""

from restwise.run.piles import Frame, Piece, openings_in

ENDED = ("end",)
CUT = ("cut",)
TOO_MANY_TESTS = ("tests",)


class Machine:
    """A run from the node with a number, up to its end.

    A test behind the world takes its first child if `usual` is True. A test beyond `most`, if
    this is not None, ends the run.
    """

    def __init__(self, shape, start, world, given, limit, most=None, usual=True):
        self.form = shape
        self.turns_told = world
        self.let = given
        self.limit = limit
        self.most = most
        self.usual = usual
        self.owners = [None]
        self.layers = [Frame("begin", start, None)]
        self.behind = None
        self.openings = 0
        self.happened = []
        self.moved = 0
        self.turns = []
        self.let_asks = []
        self.done_steps = []
        self.begun = {}
        self.again_rests = {}
        self.outcome = None
        while self.outcome is None:
            self._go_on()

    def _go_on(self):
        frame = self.layers[-1]
        if frame is None:
            self._end_work()
        elif frame.word in ("begin", "last"):
            self._begin(frame)
        else:
            self.layers[-1] = frame.below
            self._leave(frame)

    def _tell(self, word, number):
        self.happened.append((word, self.form.spots[number]))

    def _tell_holds(self, word, openings):
        self.happened.extend([(word, self.form.spots[number]) for _, number in openings])

    def _push(self, word, number, many=0, piece=None, last_rest=None):
        self.layers[-1] = Frame(word, number, self.layers[-1], many, piece, last_rest)

    def _end_work(self):
        """The handle goes, and its last part is to begin; the lowest layer has none."""
        self.layers.pop()
        handle = self.owners.pop()
        if handle is None:
            self.outcome = ENDED
        else:
            self._push("last", handle)

    def _leave(self, frame):
        """Something that is no node has its turn."""
        if frame.word == "close":
            self._tell("close", frame.number)
        elif frame.word == "wait":
            self._tell("ended", frame.number)
            self.behind = frame.number
        else:
            self.behind = None
            if frame.many == 0:
                self._tell("drop", frame.number)
                self._tell_holds("lost", frame.piece.open_holds())

    def _begin(self, frame):
        """A node begins, unless the run is cut ahead of it."""
        is_last = frame.word == "last"
        number = self.form.below[frame.number][1] if is_last else frame.number
        node = self.form.forms[number]
        if self.moved == self.limit:
            self.outcome = CUT
        elif node[0] == "test" and len(self.turns) == self.most:
            self.outcome = TOO_MANY_TESTS
        else:
            self.layers[-1] = frame.below
            self.moved = self.moved + 1
            self.begun[number] = True
            if is_last:
                self._tell("last", frame.number)
            if self.behind is not None and node[0] not in ("done", "then"):
                self._tell("behind", self.behind)
                self.behind = None
            self._do(node, number)

    def _do(self, node, number):
        """What the node itself does; done does nothing."""
        word = node[0]
        if word == "then":
            self._push("begin", self.form.below[number][1])
            self._push("begin", self.form.below[number][0])
        elif word == "step":
            self._tell("step", number)
            self.done_steps.append(node[1])
        elif word == "call":
            self._push("begin", self.form.starts[node[1]])
        elif word == "ask":
            self._ask(node[1], number)
        elif word == "rest":
            self._rest(number)
        elif word == "test":
            self._push("begin", self.form.below[number][0 if self._turn() else 1])
        elif word == "hold":
            self._hold(number)
        elif word == "handle":
            self.owners.append(number)
            self.layers.append(Frame("begin", self.form.below[number][0], None))

    def _turn(self):
        """The way that the next test takes."""
        tests = len(self.turns)
        turn = self.turns_told[tests] if tests < len(self.turns_told) else self.usual
        self.turns.append(turn)
        return turn

    def _hold(self, number):
        self.openings = self.openings + 1
        self._tell("open", number)
        self._push("close", number, self.openings)
        self._push("begin", self.form.below[number][0])

    def _answering(self, label):
        """The index of the topmost layer whose handle answers the label; 0 if none does."""
        at = len(self.owners) - 1
        while at > 0 and label not in self.form.forms[self.owners[at]]:
            at = at - 1
        return at

    def _ask(self, label, number):
        place = self.form.spots[number]
        at = self._answering(label)
        if at > 0:
            handle = self.owners[at]
            self.happened.append(("ask", place, self.form.spots[handle]))
            self._answer(at, self.form.sides[handle][label])
        elif label in self.let:
            self.happened.append(("ask", place, ()))
            self.let_asks.append(label)
        else:
            self._tell_holds("left", openings_in(self.layers))
            self.outcome = ("stop", place)

    def _answer(self, at, top):
        """The layers from this index on are cut off, and the clause with this top runs on the others."""
        piece = Piece(self.owners[at:], self.layers[at:])
        del self.owners[at:]
        del self.layers[at:]
        self._push("clause", top, 0, piece)
        self._push("begin", top)

    def _rest(self, number):
        """The clause counts the rest and waits behind it; a copy of its piece goes on above."""
        waiting = []
        frame = self.layers[-1]
        while frame.word != "clause":
            waiting.append(frame.number)
            frame = frame.below
        many = frame.many + 1
        self.layers[-1] = frame.below
        self._push("clause", frame.number, many, frame.piece, number)
        for later in waiting[::-1]:
            self._push("begin", later)
        self._push("wait", number)
        self.happened.append(("rest", self.form.spots[number], many))
        if many > 1:
            self.again_rests[frame.last_rest] = True
            self._tell_holds("shared", frame.piece.open_holds())
        self.owners.extend(list(frame.piece.owners))
        self.layers.extend(list(frame.piece.layers))
