"""What is still to be done in a run: frames, and the pieces that are cut off a pile.

A pile is a row of layers. Each layer but the lowest one belongs to a handle, whose work it is.
A layer is a chain of frames, the topmost one first, or None. Frames never change, so that copies
of a piece share them, and a copy takes no longer for a deep pile of few handles.
"""


def _is_holding(frame):
    """Whether holds can lie open in what the frame stands for."""
    return frame.word == "close" or (frame.word == "clause" and frame.many == 0)


def _nearest_holding(frame):
    """The topmost frame from this one down in which holds can lie open."""
    if frame is None or _is_holding(frame):
        return frame
    return frame.beneath


class Frame:
    """Something that is still to be done, with what lies below it in its layer.

    | word | number | many | piece | last_rest |
    | begin | the node that begins | | | |
    | last | the handle whose last part begins | | | |
    | close | the hold that closes | the opening | | |
    | wait | the rest behind which a clause waits | | | |
    | clause | the top of the clause that ends here | its rests so far | what it answers | the last one of them |
    """

    def __init__(self, word, number, below, many=0, piece=None, last_rest=None):
        self.word = word
        self.number = number
        self.below = below
        self.many = many
        self.piece = piece
        self.last_rest = last_rest
        self.beneath = _nearest_holding(below)


class Piece:
    """What an ask cuts off a pile: layers from that of the answering handle up."""

    def __init__(self, owners, layers):
        self.owners = owners
        self.layers = layers
        self.opened = None

    def open_holds(self):
        """The openings in the piece, as told by `openings_in`."""
        if self.opened is None:
            self.opened = openings_in(self.layers)
        return self.opened


def openings_in(layers):
    """The pairs (opening, number of the hold) of what lies open in these layers, in the order of the openings."""
    found = []
    ahead = list(layers)
    while ahead:
        frame = _nearest_holding(ahead.pop())
        if frame is not None:
            ahead.append(frame.beneath)
            if frame.word == "close":
                found.append((frame.many, frame.number))
            else:
                ahead.extend(frame.piece.layers)
    return sorted(set(found))
