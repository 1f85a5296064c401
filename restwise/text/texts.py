"""The texts of programs, facts, tables and markings, and how they are read."""

from restwise.base.programs import Program, check_program
from restwise.base.words import is_integer, is_name
from restwise.errors import InvalidFact, InvalidMarking, InvalidTable, ParseError
from restwise.need.families import END, Facts, is_covered_in, is_fact
from restwise.run.marked import Marking, is_mark

MOST_DIGITS = 60


def _check_text(text):
    if not isinstance(text, str):
        raise ParseError(None)


def _lines_of(text):
    """The lines of a text, of which "" has none."""
    _check_text(text)
    return text.split("\n") if text else []


def write_program(program):
    """The text of a program."""
    check_program(program)
    return "\n".join(program.lines)


def read_program(text):
    """The program with this text, whose lines can stand in any order."""
    lines = _lines_of(text)
    return Program.from_lines(*lines)


def _number_read(word):
    """The integer from 0 on that is written as this word; None if none is."""
    if not 1 <= len(word) <= MOST_DIGITS or not all([sign in "0123456789" for sign in word]):
        return None
    return int(word) if word == "0" or word[0] != "0" else None


def _fact_written(fact):
    """The text of a fact."""
    outcome = " ".join(["to"] + [str(item) for item in fact[-1]])
    if len(fact) == 2:
        return " ".join(["way"] + list(fact[0]) + [outcome])
    levels = [word for item in fact[1] for word in item]
    return " ".join(["pair", fact[0]] + (["with"] + levels if levels else []) + [outcome])


def _outcome_read(words):
    """The outcome that the last words tell, and the words ahead of it; two Nones if they tell none."""
    if words[-2:] == ["to", "end"]:
        return END, words[:-2]
    if words[-3:-1] == ["to", "ask"]:
        return ("ask", words[-1]), words[:-3]
    if words[-3:-1] == ["to", "rest"]:
        return ("rest", _number_read(words[-1])), words[:-3]
    return None, None


def _fact_read(text):
    """The fact with this text; None if it is the text of none."""
    outcome, words = _outcome_read(text.split(" "))
    if outcome is None:
        return None
    if words[:1] == ["way"]:
        fact = (tuple(words[1:]), outcome)
    elif words[:1] == ["pair"] and len(words) > 1:
        fact = (words[1], tuple(list(zip(words[3::2], words[4::2]))), outcome)
    else:
        return None
    # What is left over, or stands in a wrong place, is not in the text of the fact that was read.
    return fact if is_fact(fact) and _fact_written(fact) == text else None


def write_fact(fact):
    """The text of a fact."""
    if not is_fact(fact):
        raise InvalidFact("this is no fact")
    return _fact_written(fact)


def read_fact(text):
    """The fact with this text."""
    _check_text(text)
    fact = _fact_read(text)
    if fact is None:
        raise ParseError(None)
    return fact


def write_facts(facts):
    """The text of facts."""
    if not isinstance(facts, Facts):
        raise InvalidFact("these are no facts")
    return "\n".join([_fact_written(fact) for fact in facts])


def _is_behind(fact, earlier):
    """Whether a fact comes behind these, and none of them covers it or is covered by it."""
    if earlier and (len(earlier[-1]), earlier[-1]) >= (len(fact), fact):
        return False
    return not is_covered_in(fact, earlier) and not any([is_covered_in(other, [fact]) for other in earlier])


def _facts_of(rows):
    return Facts(tuple([fact for fact in rows if len(fact) == 2]), tuple([fact for fact in rows if len(fact) == 3]))


def read_facts(text):
    """The facts with this text."""
    found = []
    for index, line in enumerate(_lines_of(text)):
        fact = _fact_read(line)
        if fact is None or not _is_behind(fact, found):
            raise ParseError(index)
        found.append(fact)
    return _facts_of(found)


def _is_place(value):
    """Whether the value is a place of whatever program."""
    if not isinstance(value, tuple) or len(value) != 2:
        return False
    return is_name(value[0]) and is_integer(value[1]) and value[1] >= 0


def _place_read(words, names):
    """The place that two words tell, with a name or one of these; None if they tell none."""
    if len(words) != 2 or not (is_name(words[0]) or words[0] in names):
        return None
    index = _number_read(words[1])
    return None if index is None else (words[0], index)


def write_table(rows):
    """The text of a dict from places to facts."""
    if not isinstance(rows, dict):
        raise InvalidTable("this is no dict")
    if not all([_is_place(place) and isinstance(facts, Facts) for place, facts in rows.items()]):
        raise InvalidTable("this is no dict from places to facts")
    told = [(name, index, fact) for name, index in sorted(rows) for fact in rows[(name, index)]]
    return "\n".join([f"{name} {index}: {_fact_written(fact)}" for name, index, fact in told])


def _row_read(line):
    """The place and the fact that a line tells; None if it tells none."""
    spot, colon, text = line.partition(": ")
    place, fact = _place_read(spot.split(" "), ()), _fact_read(text)
    return None if colon == "" or place is None or fact is None else (place, fact)


def read_table(text):
    """The dict from places to facts with this text."""
    found = {}
    last = None
    for index, line in enumerate(_lines_of(text)):
        row = _row_read(line)
        if row is None or (last is not None and row[0] < last):
            raise ParseError(index)
        last = row[0]
        if not _is_behind(row[1], found.get(last, [])):
            raise ParseError(index)
        found.setdefault(last, []).append(row[1])
    return {place: _facts_of(facts) for place, facts in found.items()}


def write_marking(marking):
    """The text of a marking."""
    if not isinstance(marking, Marking):
        raise InvalidMarking("this is no marking")
    return "\n".join([f"{clause[0]} {clause[1]} {mark}" for clause, mark in marking.marks.items()])


def read_marking(program, text):
    """The marking of the program with this text."""
    check_program(program)
    marks = {}
    last = None
    for index, line in enumerate(_lines_of(text)):
        words = line.split(" ")
        place = _place_read(words[:-1], program.names)
        if place is None or not is_mark(words[-1]) or (last is not None and place <= last):
            raise ParseError(index)
        last = place
        marks[place] = words[-1]
    return Marking(program, marks)
