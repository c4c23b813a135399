"""A world of just the rule: one in which its own triples spread, and no others."""

from kindspreads.errors import InvalidTriples, InvalidWord
from kindspreads.kinds import triples_holding
from kindspreads.nodes import flat_product, flat_sum
from kindspreads.plain import is_one_of, name_at
from kindspreads.rules import SIDES, is_triple_of, need_rule, turned
from kindspreads.terms import need_ground
from kindspreads.valued import World


def own_tuples(rule):
    """The tuples for which the own world of a rule has values, in their order."""
    need_rule(rule)
    words = rule.kinds().kind_words
    told = [("thing", kind) for kind in words]
    told += [("sum", one, other) for one in words for other in words if one <= other]
    for side in SIDES:
        told += [(side, *triple) for triple in _triples_lacking(rule, side)]
    return told + [("rest", kind) for kind in words]


def _triples_lacking(rule, side):
    """The triples of a side that could be in a rule and are not, of each two that are turned about the first one."""
    could_be = triples_holding(rule.kinds(), side)
    return [triple for triple in could_be if triple not in rule.triples[side] and triple <= turned(side, triple)]


def own_size(rule):
    """How many values the own world of a rule has."""
    return len(own_tuples(rule))


def own_world(rule):
    """The world in which JUST the triples of a rule spread."""
    told = own_tuples(rule)
    kinds = rule.kinds()
    names = {each: _value_at(place) for place, each in enumerate(told)}
    sorts = {each: _kind_of_tuple(kinds, each) for each in told}
    plus = {}
    times = {}
    for one in told:
        for other in told:
            pair = (names[one], names[other])
            added = _added(one, other)
            plus[pair] = names.get(added, names[("rest", kinds.sum_table[(sorts[one], sorts[other])])])
            multiplied = _multiplied(one, other)
            times[pair] = names.get(multiplied, names[("rest", kinds.product_table[(sorts[one], sorts[other])])])
    holding = {kind: sorted([names[each] for each in told if sorts[each] == kind]) for kind in kinds.kind_words}
    return World(plus, times, kinds, holding)


def _value_at(place):
    return "v" + name_at(place)


def _kind_of_tuple(kinds, told):
    """The kind of the value of a tuple."""
    word, *row = told
    if word == "sum":
        return kinds.sum_table[(row[0], row[1])]
    if word == "left":
        return kinds.product_table[(row[0], kinds.sum_table[(row[1], row[2])])]
    if word == "right":
        return kinds.product_table[(kinds.sum_table[(row[0], row[1])], row[2])]
    return row[0]


def _added(one, other):
    """The tuple of the sum of two tuples if they are things, None otherwise."""
    if one[0] != "thing" or other[0] != "thing":
        return None
    return ("sum", min(one[1], other[1]), max(one[1], other[1]))


def _multiplied(one, other):
    """The tuple of the product of two tuples if they are a thing and a sum, None otherwise."""
    if one[0] == "thing" and other[0] == "sum":
        return ("left", one[1], other[1], other[2])
    if one[0] == "sum" and other[0] == "thing":
        return ("right", one[1], one[2], other[1])
    return None


def triple_terms(book, word, triple):
    """The two terms of the first things of the kinds of a triple that are kin exactly if it is in the rule."""
    ground = need_ground(book)
    if not is_one_of(word, SIDES):
        raise InvalidWord(word)
    if not is_triple_of(book.rule().kinds(), word, triple):
        raise InvalidTriples(triple)
    first, second, third = [_first_thing(ground, kind) for kind in triple]
    if word == "left":
        pairs = [[first, second], [first, third]]
        gathered = flat_product(ground, [first, flat_sum(ground, [second, third])])
    else:
        pairs = [[first, third], [second, third]]
        gathered = flat_product(ground, [flat_sum(ground, [first, second]), third])
    spread = flat_sum(ground, [flat_product(ground, pair) for pair in pairs])
    return gathered.term(), spread.term()


def _first_thing(ground, kind):
    """The first thing of a kind: the things of a ground ascend."""
    return [node for node in ground.things.values() if node.kind == kind][0]


def own_inputs(book):
    """The dictionary from the things of a book to the values of its rule's own world that are things of their kinds."""
    ground = need_ground(book)
    words = book.rule().kinds().kind_words
    return {thing: _value_at(words.index(kind)) for thing, kind in ground.sorts.items()}
