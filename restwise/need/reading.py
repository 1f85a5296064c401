"""How lines are read: what each one tells, and by which rule.

Lines are judged anew whenever they are made, and most of them tell what earlier ones have told of
the same. So each fact at a place has a number, and what a rule makes of facts is worked out once.
"""

from restwise.need.families import bits_of, triple_of
from restwise.need.rules import is_fact_at
from restwise.need.uses import BACK, rule_of

MAX_LINES = 4000
GOES_BACK = ("back",)
NOTHING = (None, None)


class Reader:
    """The items that lines of a program tell, by their numbers, and the words of the rules that make them."""

    def __init__(self, program):
        self.form = program.shape
        self.bits = bits_of(program.labels)
        self.read_items = []
        self.numbers_by_text = {}
        self.latest_by_place = {}
        self.words_by_use = {}

    def number_of(self, place, fact):
        """The number of the item that a line tells; None if no line can tell this fact at this place."""
        if not _has_place_form(place):
            return None
        known, number = self.latest_by_place.get(place, NOTHING)
        # True is equal to 1, but only the last item of an outcome can be a number.
        if number is not None and fact == known and not isinstance(fact[-1][-1], bool):
            return number
        text = repr((place, fact))
        if text not in self.numbers_by_text:
            self.numbers_by_text[text] = self._new_number(place, fact)
        number = self.numbers_by_text[text]
        if number is not None:
            self.latest_by_place[place] = (fact, number)
        return number

    def _new_number(self, place, fact):
        item = _item_of(self.form, self.bits, place, fact) if place in self.form.numbers else None
        if item is None:
            return None
        self.read_items.append(item)
        return len(self.read_items) - 1

    def word_of(self, number, used):
        """The word of the rule that makes an item of just these, told by their numbers; None if no rule does."""
        key = (number, used)
        if key not in self.words_by_use:
            items = [self.read_items[other] for other in used]
            self.words_by_use[key] = rule_of(self.form, self.bits, self.read_items[number], items)
        return self.words_by_use[key]


def _item_of(shape, bits, place, fact):
    """The item that a line tells; None if no line can tell this fact at this place."""
    number = shape.numbers[place]
    if fact == GOES_BACK:
        return (number, BACK) if shape.forms[number][0] == "rest" else None
    return (number, triple_of(bits, fact)) if is_fact_at(shape, number, fact) else None


def _has_place_form(value):
    if not isinstance(value, tuple) or len(value) != 2 or not isinstance(value[0], str):
        return False
    return isinstance(value[1], int) and not isinstance(value[1], bool)


def _used_by(uses, numbers):
    """The numbers of the items that lines tell whose indices are used; None if these are no indices of such lines."""
    if not isinstance(uses, tuple):
        return None
    many = len(numbers)
    used = [numbers[use] for use in uses if isinstance(use, int) and not isinstance(use, bool) and 0 <= use < many]
    return tuple(used) if len(used) == len(uses) else None


def lines_read(program, value):
    """The items that lines tell, and the words of their rules; None if the value is no lines of the program."""
    if not isinstance(value, tuple) or not 1 <= len(value) <= MAX_LINES:
        return None
    reader = Reader(program)
    numbers = []
    words = []
    last_place, last_fact = None, None
    for line in value:
        if not isinstance(line, tuple) or len(line) != 3:
            return None
        place, fact, uses = line
        is_same = numbers and place == last_place and fact == last_fact
        if is_same and not isinstance(place[1], bool) and not isinstance(fact[-1][-1], bool):
            number = numbers[-1]
        else:
            number = reader.number_of(place, fact)
        used = () if uses == () else _used_by(uses, numbers)
        word = None if number is None or used is None else reader.word_of(number, used)
        if word is None:
            return None
        last_place, last_fact = place, fact
        numbers.append(number)
        words.append(word)
    return [reader.read_items[number] for number in numbers], words
