"""Runs once more, plainly by the words of the document: one flat pile, copied whole."""

import copy


def ends_of(nodes):
    """For each index the index behind its part."""
    def end(index):
        node, behind = nodes[index], index + 1
        many = len(node) + 1 if node[0] == "handle" else {"then": 2, "test": 2, "hold": 1}.get(node[0], 0)
        for _ in range(many):
            behind = end(behind)
        return behind
    return end


def child(program, place, number):
    name, index = place
    end, at = ends_of(program[name].nodes), index + 1
    for _ in range(number):
        at = end(at)
    return (name, at)


class PlainRun:
    def __init__(self, program, name, world=(), given=(), moves=2000):
        self.program, self.world, self.given, self.limit = program, world, given, moves
        self.row, self.end, self.moves, self.tests = [], None, 0, 0
        self.asked, self.places, self.steps = [], set(), []
        self.opened = 0
        self.again = set()
        self.ended_rest = None
        self.pile = [{"word": "node", "place": (name, 0)}]
        while self.end is None:
            self.turn()

    def turn(self):
        if not self.pile:
            self.end = ("end",)
            return
        frame = self.pile.pop()
        if frame["word"] == "handle":
            self.pile.append({"word": "last", "place": child(self.program, frame["place"], 1), "handle": frame["place"]})
        elif frame["word"] == "close":
            self.row.append(("close", frame["place"]))
        elif frame["word"] == "behind":
            self.row.append(("ended", frame["place"]))
            self.ended_rest = frame["place"]
        elif frame["word"] == "clause":
            self.ended_rest = None
            if frame["rests"] == 0:
                self.row.append(("drop", frame["place"]))
                self.tell("lost", frame["piece"])
        elif self.moves == self.limit:
            self.end = ("cut",)
        else:
            self.begin(frame)

    def inside(self, frames):
        found = {}
        for frame in frames:
            if frame["word"] == "close":
                found[frame["opening"]] = frame["place"]
            if frame["word"] == "clause" and frame["rests"] == 0:
                found.update(self.inside(frame["piece"]))
        return found

    def tell(self, word, frames):
        for _, place in sorted(self.inside(frames).items()):
            self.row.append((word, place))

    def begin(self, frame):
        place = frame["place"]
        node = self.program[place[0]].nodes[place[1]]
        self.moves += 1
        self.places.add(place)
        if frame["word"] == "last":
            self.row.append(("last", frame["handle"]))
        if self.ended_rest is not None and node[0] not in ("done", "then"):
            self.row.append(("behind", self.ended_rest))
            self.ended_rest = None
        getattr(self, "do_" + node[0])(place, node)

    def todo(self, place):
        self.pile.append({"word": "node", "place": place})

    def do_done(self, place, node):
        pass

    def do_step(self, place, node):
        self.row.append(("step", place))
        self.steps.append(node[1])

    def do_call(self, place, node):
        self.todo((node[1], 0))

    def do_then(self, place, node):
        self.todo(child(self.program, place, 1))
        self.todo(child(self.program, place, 0))

    def do_test(self, place, node):
        turn = self.world[self.tests] if self.tests < len(self.world) else True
        self.tests += 1
        self.todo(child(self.program, place, 0 if turn else 1))

    def do_hold(self, place, node):
        self.opened += 1
        self.row.append(("open", place))
        self.pile.append({"word": "close", "place": place, "opening": self.opened})
        self.todo(child(self.program, place, 0))

    def do_handle(self, place, node):
        self.pile.append({"word": "handle", "place": place})
        self.todo(child(self.program, place, 0))

    def do_ask(self, place, node):
        for at in range(len(self.pile) - 1, -1, -1):
            frame = self.pile[at]
            if frame["word"] == "handle":
                handle = self.program[frame["place"][0]].nodes[frame["place"][1]]
                if node[1] in handle[1:]:
                    self.row.append(("ask", place, frame["place"]))
                    top = child(self.program, frame["place"], 1 + handle.index(node[1]))
                    piece, self.pile = self.pile[at:], self.pile[:at]
                    self.pile.append({"word": "clause", "place": top, "rests": 0, "piece": piece})
                    self.todo(top)
                    return
        if node[1] in self.given:
            self.row.append(("ask", place, ()))
            self.asked.append(node[1])
        else:
            self.tell("left", self.pile)
            self.end = ("stop", place)

    def do_rest(self, place, node):
        clause = [frame for frame in self.pile if frame["word"] == "clause"][-1]
        if clause["rests"] > 0:
            self.again.add(clause["last"])
        clause["rests"] += 1
        clause["last"] = place
        self.row.append(("rest", place, clause["rests"]))
        if clause["rests"] > 1:
            self.tell("shared", clause["piece"])
        self.pile.append({"word": "behind", "place": place})
        self.pile.extend(copy.deepcopy(clause["piece"]))
