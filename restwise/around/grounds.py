"""Contexts, and what the rules of standings make in them by a table.

Inside the package a context is a tuple of triples (label, number of a handle, given), and each
context has a number of its own, from 0 on; 0 is that of the context in which nothing is around. A
standing is a pair (number of a node, number of a context).
"""

from restwise.need.families import END
from restwise.need.makings import goes_by, rests_by
from restwise.need.masks import is_mask_covered


def _passing_by(shape, families):
    """For each part that follows a rest whether a rest ahead of it goes on through it."""
    parts = sorted({part for row in shape.followings.values() for part in row})
    passing = {}
    # What follows a rest within a part has greater numbers than the part.
    for part in parts[::-1]:
        inside = [[later for later in shape.followings[rest] if part <= later < shape.ends[part]]
                  for rest in rests_by(shape, families, part)]
        is_by_rest = any([all([passing[later] for later in row]) for row in inside])
        passing[part] = is_by_rest or goes_by(families, part, END)
    return passing


class Ground:
    """A program with the families of a table, and the contexts that have been met."""

    def __init__(self, shape, bits, families, backs):
        self.form = shape
        self.bits = bits
        self.low = sum(list(bits.values()))
        self.families = families
        self.backs = backs
        self.met_contexts = []
        self.given_masks = []
        self.context_numbers = {}
        self.inner_numbers = {}
        self.pairs_found = {}
        self.passing = None
        self.number_of_context(())

    def number_of_context(self, context):
        """The number of a context."""
        if context not in self.context_numbers:
            self.context_numbers[context] = len(self.met_contexts)
            self.met_contexts.append(context)
            self.given_masks.append(sum([self.bits[label] for label, _, is_given in context if is_given]))
        return self.context_numbers[context]

    def handle_for(self, label, at):
        """The number of the handle that answers the label in this context; None if none does."""
        found = [handle for other, handle, _ in self.met_contexts[at] if other == label]
        return found[0] if found else None

    def inner(self, handle, at):
        """The number of the context of the work of a handle, by that of the handle."""
        key = (handle, at)
        if key not in self.inner_numbers:
            sides = self.form.sides[handle]
            kept = [triple for triple in self.met_contexts[at] if triple[0] not in sides]
            own = [(label, handle, self.comes_to_rest(top, at)) for label, top in sides.items()]
            self.inner_numbers[key] = self.number_of_context(tuple(sorted(kept + own)))
        return self.inner_numbers[key]

    def is_had(self, number, outcome, at):
        """Whether the node has a way to the outcome that is had in this context."""
        masks = self.families[number].get((0, outcome), ())
        return is_mask_covered(self.given_masks[at], masks)

    def ways_had(self, number, outcome, at):
        """The triples of the ways of a node to the outcome that are had in this context."""
        given = self.given_masks[at]
        return [(0, mask, outcome) for mask in self.families[number].get((0, outcome), ()) if mask | given == given]

    def ways_to_rests(self, top, at, is_back=False):
        """The triples of the ways of a clause to its rests that are had; only rests that go on back if asked for."""
        start = self.form.start_of(top)
        outcomes = [outcome for own, outcome in self.families[top] if own == 0 and outcome[0] == "rest"]
        return [triple for outcome in outcomes if not is_back or self.backs[start + outcome[1]]
                for triple in self.ways_had(top, outcome, at)]

    def comes_to_rest(self, top, at):
        """Whether a clause can come to a rest in this context."""
        return len(self.ways_to_rests(top, at)) > 0

    def ending_pairs(self, rest, at):
        """The triples of the pairs of the work by which a rest that is come to in this context is ended there."""
        handle, label = self.form.homes[self.form.owners[rest]]
        key = (handle, label, at)
        if key not in self.pairs_found:
            self.pairs_found[key] = self._pairs_ending(handle, label, at)
        return self.pairs_found[key]

    def _pairs_ending(self, handle, label, at):
        sides = self.form.sides[handle]
        given = self.given_masks[self.inner(handle, at)]
        own = sum([self.bits[other] for other in sides])
        coming = sum([self.bits[other] for other, top in sides.items() if self.ways_to_rests(top, at, True)])
        work = self.form.below[handle][0]
        found = []
        for (bit, outcome), masks in self.families[work].items():
            if bit == self.bits[label] and self.is_end_behind(handle, outcome, at):
                found.extend([(bit, mask, outcome) for mask in masks if self._is_met(mask, given, own, coming)])
        return found

    def _is_met(self, mask, given, own, coming):
        """Whether what is given meets the labels of a need, and those of the handle that are back can come back."""
        back = (mask // 2) & self.low
        going = (mask & self.low) - (back & own)
        return going | given == given and (back & own) | coming == coming

    def is_end_behind(self, handle, outcome, at):
        """Whether what comes in the place of the work with this outcome can end in the context of the handle."""
        if outcome == END:
            return self.is_had(self.form.below[handle][1], END, at)
        sides = self.form.sides[handle]
        return outcome[0] == "ask" and outcome[1] in sides and self.is_had(sides[outcome[1]], END, at)

    def led_to(self, standing):
        """The pairs (standing, word) of what is come to because this one is, but for what ended rests make."""
        number, at = standing
        word = self.form.forms[number][0]
        below = self.form.below[number]
        if word in ("test", "hold"):
            return [((child, at), "from") for child in below]
        if word == "call":
            return [((self.form.starts[self.form.forms[number][1]], at), "from")]
        if word == "then":
            second = [((below[1], at), "then")] if self.is_had(below[0], END, at) else []
            return [((below[0], at), "from")] + second
        return self._led_by_handle(number, at) if word == "handle" else []

    def _led_by_handle(self, handle, at):
        work, last = self.form.below[handle][:2]
        inner = self.inner(handle, at)
        found = [((work, inner), "work")]
        for label, top in self.form.sides[handle].items():
            if self.is_had(work, ("ask", label), inner):
                found.append(((top, at), "clause"))
        if self.is_had(work, END, inner):
            found.append(((last, at), "last"))
        return found

    def ends_behind(self, rest):
        """What follows a rest, up to the first part that has no way to the end for which nothing is asked."""
        found = []
        for part in self.form.followings[rest]:
            found.append(part)
            if not goes_by(self.families, part, END):
                break
        return found

    def parts_behind(self, rest):
        """What follows a rest, up to the first part through which it does not go on."""
        if self.passing is None:
            self.passing = _passing_by(self.form, self.families)
        found = []
        for part in self.form.followings[rest]:
            found.append(part)
            if not self.passing[part]:
                break
        return found

    def context_told(self, at):
        """A context with places in the place of numbers."""
        return tuple([(label, self.form.spots[handle], is_given) for label, handle, is_given in self.met_contexts[at]])
