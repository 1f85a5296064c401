"""Facts once more, plainly: all facts over some labels, and how they are put together by [6.2]."""

from itertools import combinations, product

from tests.plain_rules import covers, least, then_facts

END = ("end",)


def subsets(labels):
    return [some for many in range(len(labels) + 1) for some in combinations(labels, many)]


def needs(labels):
    """All needs over these labels."""
    found = []
    for levels in product(("", "on", "back"), repeat=len(labels)):
        found.append(tuple((label, level) for label, level in zip(labels, levels) if level))
    return found


def all_facts(labels, outcomes):
    """All ways and pairs over these labels and outcomes."""
    found = [(some, outcome) for some in subsets(labels) for outcome in outcomes]
    for label in labels:
        found += [(label, need, outcome) for need in needs(labels) if (label, "on") not in need for outcome in outcomes]
    return found


def chosen(chance, labels, outcomes, many):
    every = all_facts(labels, outcomes)
    return chance.sample(every, min(many, len(every)))


def split(facts):
    """Ways and pairs, as `Facts` takes them."""
    return tuple(fact for fact in facts if len(fact) == 2), tuple(fact for fact in facts if len(fact) == 3)


def covered(facts, fact):
    return any(covers(fact, other) for other in facts)


def both(one, other, labels, outcomes):
    """The least ones of all facts that both cover."""
    return least([fact for fact in all_facts(labels, outcomes) if covered(one, fact) and covered(other, fact)])


def behind(one, other):
    return least(then_facts(set(one), set(other)))
