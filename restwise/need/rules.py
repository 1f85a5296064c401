"""Tables of a program, and the rules by which each node's facts are made of those of others."""

from restwise.base.programs import check_program
from restwise.errors import InvalidFact, InvalidTable
from restwise.need.families import Facts, bits_of, facts_from
from restwise.need.forms import has_fact_form
from restwise.need.makings import backs_by, family_made, is_again
from restwise.need.growing import closed_around
from restwise.need.rounds import grown


def is_outcome_at(shape, number, outcome):
    """Whether facts of this node in a table can have this outcome, which is one."""
    if outcome[0] == "ask":
        return outcome[1] in shape.label_names
    if outcome[0] != "rest":
        return True
    rest = shape.start_of(number) + outcome[1]
    if not number <= rest < shape.ends[number] or rest not in shape.owners:
        return False
    # A clause that has the rest and begins ahead of the node is around it.
    return shape.owners[rest] <= number


def is_fact_at(shape, number, value):
    """Whether the value is a fact that `Facts` of this node in a table can have."""
    return has_fact_form(value, shape.label_names) and is_outcome_at(shape, number, value[-1])


def check_fact(shape, number, fact):
    """Refuses what is no fact that this node can have."""
    if not is_fact_at(shape, number, fact):
        raise InvalidFact("this is no fact that this node can have")


def _is_facts_at(shape, number, value):
    """Whether the value is `Facts` that this node can have in a table."""
    if not isinstance(value, Facts):
        return False
    if not all([label in shape.label_names for label in value.labels]):
        return False
    return all([is_outcome_at(shape, number, outcome) for outcome in value.outcomes])


def is_table(program, value):
    """Whether the value is a table of the program."""
    check_program(program)
    shape = program.shape
    if not isinstance(value, dict) or len(value) != len(shape.spots):
        return False
    if not all([shape.has_place(place) for place in value]):
        return False
    return all([_is_facts_at(shape, number, value[place]) for number, place in enumerate(shape.spots)])


def check_table(program, table):
    """Refuses what is no table of the program."""
    if not is_table(program, table):
        raise InvalidTable("this is no table of the program")


def families_of(program, rows):
    """The families of a table, in the order of the places."""
    bits = bits_of(program.labels)
    return [rows[place].family_by(bits) for place in program.shape.spots]


def rows_of(program, families):
    """The table with these families, which are in the order of the places."""
    bits = bits_of(program.labels)
    return {place: facts_from(bits, family) for place, family in zip(program.shape.spots, families)}


def _rest_at(program, place):
    check_program(program)
    return program.shape.number_of(place, "rest")


def following(program, place):
    """The places of what follows a rest, from the inside out."""
    rest = _rest_at(program, place)
    return program.shape.places_of(program.shape.followings[rest])


def has_more(program, place):
    """Whether a node other than done and then is in what follows a rest."""
    rest = _rest_at(program, place)
    return is_followed(program.shape, rest)


def is_followed(shape, rest):
    """Whether a node other than done and then is in what follows the rest with this number."""
    nodes = [node for top in shape.followings[rest] for node in shape.forms[top:shape.ends[top]]]
    return any([node[0] not in ("done", "then") for node in nodes])


def goes_back(program, place, table):
    """Whether a rest goes on back by a table."""
    rest = _rest_at(program, place)
    check_table(program, table)
    return backs_by(program.shape, families_of(program, table))[rest]


def goes_again(program, place, table):
    """Whether a rest goes on again by a table."""
    rest = _rest_at(program, place)
    check_table(program, table)
    return is_again(program.shape, families_of(program, table), rest)


def facts_made(program, place, table):
    """The facts that the rules make at this node when they are used once."""
    check_program(program)
    shape = program.shape
    number = shape.number_at(place)
    check_table(program, table)
    families = families_of(program, table)
    bits = bits_of(program.labels)
    return facts_from(bits, family_made(shape, bits, number, families, backs_by(shape, families)))


def history_of(program):
    """How the least table grows, round by round; it is worked out once for a program."""
    return program.kept("history", _history_made)


def _history_made(program):
    return grown(program.shape, bits_of(program.labels), [{} for _ in program.shape.spots])


def least_table(program):
    """The least table."""
    check_program(program)
    rows = program.kept("least table", _least_rows)
    return {place: rows[place] for place in rows}


def _least_rows(program):
    return rows_of(program, least_families(program))


def least_families(program):
    """The families of the least table; they are worked out once for a program."""
    return program.kept("least families", _least_families_made)


def _least_families_made(program):
    return closed_around(program.shape, bits_of(program.labels), [{} for _ in program.shape.spots])
