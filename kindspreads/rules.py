"""Rules: for which kinds a product spreads over a sum, from the left and from the right."""

from kindspreads.errors import InvalidMap, InvalidRule, InvalidTriples, InvalidWord, Unlike
from kindspreads.kinds import can_be_left, can_be_right, holds, need_kinds, opposite, renamed, triples_holding
from kindspreads.plain import is_map_to_words, is_one_of

SIDES = ("left", "right")

# Of so few triples each is tried alone; of more it is worth while to look for ALL that hold.
FEW = 4


class Rule:
    """A Kinds, and the left and right triples by which products spread."""

    def __init__(self, kinds, left, right):
        need_kinds(kinds)
        need_triples(kinds, "left", left)
        need_triples(kinds, "right", right)
        self._kinds = kinds
        # The package looks triples up here, and changes nothing of it.
        self.triples = {
            "left": {triple: True for triple in left},
            "right": {triple: True for triple in right},
        }
        # What takes long to tell of a rule is kept here: as a rule never changes, it stays true.
        self.reckoned = {}

    def __eq__(self, other):
        return isinstance(other, Rule) and self._kinds == other._kinds and self.triples == other.triples

    def kinds(self):
        """The Kinds of the rule."""
        return self._kinds

    def left(self):
        """The ascending list of its left triples."""
        return list(self.triples["left"])

    def right(self):
        """The ascending list of its right triples."""
        return list(self.triples["right"])


def need_rule(value):
    """Raise an error for what is no rule."""
    if not isinstance(value, Rule):
        raise InvalidRule(value)


def turned(word, triple):
    """A triple of a side with the two kinds of its sum exchanged."""
    if word == "left":
        return (triple[0], triple[2], triple[1])
    return (triple[1], triple[0], triple[2])


def is_triple_of(kinds, word, value):
    """Whether any object is a triple of a side that holds in the tables."""
    return _is_row_of_three(value) and holds(kinds, word, value)


def _is_row_of_three(value):
    return isinstance(value, tuple) and len(value) == 3 and all([isinstance(each, str) for each in value])


def _are_triples_of(kinds, word, value):
    if not isinstance(value, list) or not all([_is_row_of_three(each) for each in value]):
        return False
    if len(value) <= FEW:
        return all([holds(kinds, word, each) for each in value])
    holding = triples_holding(kinds, word)
    return all([each in holding for each in value])


def need_triples(kinds, word, value):
    """Raise an error for what is no list of triples of a side as a rule is made of."""
    if not _are_triples_of(kinds, word, value) or value != with_turned(word, value):
        raise InvalidTriples(value)


def with_turned(word, triples):
    """The ascending list of triples and of those in which the kinds of the sum are exchanged."""
    return sorted({each for triple in triples for each in (triple, turned(word, triple))})


def both_ways(kinds, word, triples):
    """The ascending list of some triples of a side and of the turned ones."""
    need_kinds(kinds)
    if not is_one_of(word, SIDES):
        raise InvalidWord(word)
    if not _are_triples_of(kinds, word, triples):
        raise InvalidTriples(triples)
    return with_turned(word, triples)


def whole_rule(kinds):
    """The rule of ALL left and right triples."""
    need_kinds(kinds)
    return Rule(kinds, can_be_left(kinds), can_be_right(kinds))


def rule_with(rule, left, right):
    """The rule with further triples."""
    _need_rule_and_triples(rule, left, right)
    return Rule(rule.kinds(), _either(rule.left(), left), _either(rule.right(), right))


def rule_without(rule, left, right):
    """The rule without some triples."""
    _need_rule_and_triples(rule, left, right)
    return Rule(rule.kinds(), _but(rule.left(), left), _but(rule.right(), right))


def _need_rule_and_triples(rule, left, right):
    need_rule(rule)
    need_triples(rule.kinds(), "left", left)
    need_triples(rule.kinds(), "right", right)


def _either(some, others):
    return sorted(set(some + others))


def _both(some, others):
    return [triple for triple in some if triple in others]


def _but(some, others):
    return [triple for triple in some if triple not in others]


def meet_rule(one, other):
    """The rule of the triples that both rules have."""
    _need_like_rules(one, other)
    return Rule(one.kinds(), _both(one.left(), other.left()), _both(one.right(), other.right()))


def union_rule(one, other):
    """The rule of the triples that either rule has."""
    _need_like_rules(one, other)
    return Rule(one.kinds(), _either(one.left(), other.left()), _either(one.right(), other.right()))


def is_within(one, other):
    """Whether all triples of the one rule are the other one's."""
    _need_like_rules(one, other)
    return not _but(one.left(), other.left()) and not _but(one.right(), other.right())


def _need_like_rules(one, other):
    need_rule(one)
    need_rule(other)
    if one.kinds() != other.kinds():
        raise Unlike(other)


def mirrored_rule(rule):
    """The rule with times turned about, in which left triples are right ones and the contrary."""
    need_rule(rule)
    left = sorted([(a, b, c) for b, c, a in rule.right()])
    right = sorted([(b, c, a) for a, b, c in rule.left()])
    return Rule(opposite(rule.kinds()), left, right)


def renamed_rule(rule, sent):
    """The rule with its kinds exchanged by a dictionary from just these to unlike words."""
    need_rule(rule)
    if not is_map_to_words(sent, rule.kinds().words()):
        raise InvalidMap(sent)
    left = sorted([_triple_sent(triple, sent) for triple in rule.left()])
    right = sorted([_triple_sent(triple, sent) for triple in rule.right()])
    return Rule(renamed(rule.kinds(), sent), left, right)


def _triple_sent(triple, sent):
    return tuple([sent[kind] for kind in triple])


def _parting_triples(one, other):
    left = _but(one.left(), other.left()) + _but(other.left(), one.left())
    right = _but(one.right(), other.right()) + _but(other.right(), one.right())
    return [("left", triple) for triple in left] + [("right", triple) for triple in right]


def parting_triple(one, other):
    """Any tuple of a side and a triple that is in just one of two rules, None if they are equal."""
    _need_like_rules(one, other)
    found = _parting_triples(one, other)
    if not found:
        return None
    return found[0]


def is_parting_triple(one, other, value):
    """Whether any object is a tuple of a side and a triple that is in just one of two rules."""
    _need_like_rules(one, other)
    return value in _parting_triples(one, other)
