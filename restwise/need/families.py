"""Facts: ways and pairs, what covers what, and how facts are put together."""

from restwise.base.words import has_boolean, is_integer, is_name
from restwise.errors import InvalidFact, InvalidNumber, InvalidOperation, InvalidWord
from restwise.need.forms import (LEVELS, MOST_LABELS, does_cover, has_fact_form, has_labels_form, has_need_form,
                                 has_outcome_form, labels_of)
from restwise.need.masks import chained, family_of, is_mask_covered, met, triples_of, united

END = ("end",)
WEIGHTS = {"on": 1, "back": 3}


def is_outcome(value):
    """Whether the value is an outcome."""
    return has_outcome_form(value, None)


def is_need(value):
    """Whether the value is a need of at most six labels."""
    return has_need_form(value, None)


def is_fact(value):
    """Whether the value is a fact."""
    return has_fact_form(value, None)


def bits_of(labels):
    """A dict from these labels, which ascend, to their bits."""
    return {label: 1 << (2 * index) for index, label in enumerate(labels)}


def _mask_of(bits, need):
    return sum([bits[label] * WEIGHTS[level] for label, level in need])


def _need_from(bits, mask):
    return tuple([(label, "back" if mask & (2 * bit) else "on") for label, bit in bits.items() if mask & bit])


def triple_of(bits, fact):
    """The triple of a fact, whose labels have these bits."""
    if len(fact) == 2:
        return (0, sum([bits[label] for label in fact[0]]), fact[1])
    return (bits[fact[0]], _mask_of(bits, fact[1]), fact[2])


def fact_from(bits, triple):
    """The fact with this triple."""
    own, mask, outcome = triple
    if own == 0:
        return (tuple([label for label, bit in bits.items() if mask & bit]), outcome)
    names = [label for label, bit in bits.items() if bit == own]
    return (names[0], _need_from(bits, mask), outcome)


def _check_need(need):
    if not is_need(need):
        raise InvalidFact("this is no need")


def _check_labels(labels):
    if not has_labels_form(labels, None):
        raise InvalidFact("this is no ascending tuple of at most six names")


def _check_word(label):
    if not is_name(label):
        raise InvalidWord("this is no name")


def _check_few(labels):
    if len(labels) > MOST_LABELS:
        raise InvalidFact("these are more than six labels")


def level_of(need, label):
    """The level of a label in a need, "" if it is absent."""
    _check_need(need)
    _check_word(label)
    return "".join([level for other, level in need if other == label])


def need_of(on, back):
    """The need in which the labels of `back` are "back", and the other ones of `on` are "on"."""
    _check_labels(on)
    _check_labels(back)
    labels = sorted(set(on + back))
    _check_few(labels)
    return tuple([(label, "back" if label in back else "on") for label in labels])


def joined(*needs):
    """The need in which each label has its highest level in these needs."""
    for need in needs:
        _check_need(need)
    labels = sorted({label for need in needs for label, _ in need})
    _check_few(labels)
    back = [label for need in needs for label, level in need if level == "back"]
    return tuple([(label, "back" if label in back else "on") for label in labels])


def is_covered_in(fact, facts):
    """Whether the fact is covered by one of these, whatever strings their labels are."""
    return any([does_cover(fact, other) for other in facts])


def is_covered(one, other):
    """Whether the first fact is covered by the second one."""
    if not has_fact_form(one, None) or not has_fact_form(other, None):
        raise InvalidFact("this is no fact")
    return does_cover(one, other)


def family_in(bits, facts):
    """The family of these facts, whose labels have these bits."""
    return family_of([triple_of(bits, fact) for fact in facts])


def _told_by(bits, family):
    """The ways and the pairs of a family, both ascending."""
    facts = [fact_from(bits, triple) for triple in triples_of(family)]
    ways = tuple(sorted([fact for fact in facts if len(fact) == 2]))
    return ways, tuple(sorted([fact for fact in facts if len(fact) == 3]))


def facts_from(bits, family):
    """The `Facts` of a family, whatever strings its labels are."""
    facts = Facts()
    ways, pairs = _told_by(bits, family)
    facts._ways = ways
    facts._pairs = pairs
    facts._all = ways + pairs
    facts._bits = bits
    facts._family = family
    return facts


def _few_facts(bits, family):
    """The `Facts` of a family, which have at most six labels."""
    facts = facts_from(bits, family)
    _check_few(facts.labels)
    return facts


def _is_all_facts(value, items):
    """Whether the value is a tuple of facts of so many items."""
    return isinstance(value, tuple) and all([is_fact(fact) and len(fact) == items for fact in value])


class Facts:
    """All facts that some of these cover; the least ones of them are kept. They never change."""

    def __init__(self, ways=(), pairs=()):
        if not _is_all_facts(ways, 2):
            raise InvalidFact("this is no tuple of ways")
        if not _is_all_facts(pairs, 3):
            raise InvalidFact("this is no tuple of pairs")
        labels = labels_of(ways + pairs)
        _check_few(labels)
        self._bits = bits_of(labels)
        self._family = family_in(self._bits, ways + pairs)
        self._ways, self._pairs = _told_by(self._bits, self._family)
        self._all = self._ways + self._pairs

    @classmethod
    def done(cls):
        """The facts of a done."""
        return cls((((), END),))

    @classmethod
    def ask(cls, label):
        """The facts of an ask of this label."""
        _check_word(label)
        return cls((((), ("ask", label)), ((label,), END)), ((label, (), END),))

    @classmethod
    def rest(cls, index):
        """The facts of a rest with this index."""
        if not is_integer(index) or index < 0:
            raise InvalidNumber(index)
        return cls((((), ("rest", index)),))

    @property
    def ways(self):
        """The least ways, ascending."""
        return self._ways

    @property
    def pairs(self):
        """The least pairs, ascending."""
        return self._pairs

    @property
    def labels(self):
        """The labels of these, those of outcomes included, ascending."""
        return labels_of(self._all)

    @property
    def outcomes(self):
        """The outcomes of these, ascending."""
        return tuple(sorted({fact[-1] for fact in self._all}))

    def covers(self, fact):
        """Whether one of these covers the fact."""
        if not has_fact_form(fact, None):
            raise InvalidFact("this is no fact")
        return self.has_covering(fact)

    def has_covering(self, fact):
        """Whether one of these covers a fact, whatever strings its labels are."""
        own, mask = 0, 0
        if len(fact) == 2:
            for label in fact[0]:
                mask = mask | self._bits.get(label, 0)
        else:
            own = self._bits.get(fact[0], 0)
            for label, level in fact[1]:
                mask = mask | WEIGHTS[level] * self._bits.get(label, 0)
            if own == 0:
                return False
        return is_mask_covered(mask, self._family.get((own, fact[-1]), ()))

    def family_by(self, bits):
        """The family of these, whose labels have these bits."""
        return self._family if self._bits == bits else family_in(bits, self._all)

    def to(self, outcome):
        """Those with this outcome."""
        if not is_outcome(outcome):
            raise InvalidFact("this is no outcome")
        return facts_from(self._bits, {key: masks for key, masks in self._family.items() if key[1] == outcome})

    def is_within(self, value):
        """Whether the value is `Facts` that cover each of these."""
        if not isinstance(value, Facts):
            return False
        return all([value.has_covering(fact) for fact in self._all])

    def reached(self, given):
        """The outcomes, ascending, of the ways whose labels are all given."""
        _check_labels(given)
        return tuple(sorted({way[1] for way in self._ways if all([label in given for label in way[0]])}))

    def paired(self, label, given, back):
        """The outcomes, ascending, of the pairs of this label whose needs are met by these labels."""
        _check_word(label)
        _check_labels(given)
        _check_labels(back)
        pairs = [pair for pair in self._pairs if pair[0] == label
                 and all([other in (given if level == "on" else back) for other, level in pair[1]])]
        return tuple(sorted({pair[2] for pair in pairs}))

    def _bits_with(self, other):
        """The bits of the labels of both."""
        if not isinstance(other, Facts):
            raise InvalidOperation("the other operand is no facts")
        return bits_of(labels_of(list(self) + list(other)))

    def __add__(self, other):
        bits = self._bits_with(other)
        return _few_facts(bits, chained(self.family_by(bits), other.family_by(bits), END))

    def __or__(self, other):
        bits = self._bits_with(other)
        return _few_facts(bits, united([self.family_by(bits), other.family_by(bits)]))

    def __and__(self, other):
        bits = self._bits_with(other)
        return _few_facts(bits, met(self.family_by(bits), other.family_by(bits)))

    def __contains__(self, value):
        return not has_boolean(value) and value in self._all

    def __len__(self):
        return len(self._all)

    def __bool__(self):
        return bool(self._all)

    def __iter__(self):
        return iter(self._all)

    def __eq__(self, other):
        if not isinstance(other, Facts):
            return False
        return self._ways == other.ways and self._pairs == other.pairs

    def __str__(self):
        return f"{len(self._ways)} ways, {len(self._pairs)} pairs"
