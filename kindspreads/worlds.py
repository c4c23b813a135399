"""The finite world of a term: its values tell which terms are kin with it, and keep its parts apart."""

from itertools import combinations

from kindspreads.kin import are_kin_nodes
from kindspreads.nodes import flat_product, flat_sum, inner_nodes, summands_together
from kindspreads.plain import name_at
from kindspreads.terms import need_ground, need_node
from kindspreads.valued import World, are_inputs_of, fits_rule, value_by
from kindspreads.walks import kin_nodes
from kindspreads.wholes import words_and_things


class Coming:
    """The classes that come for a node: the first term of each, in their order, and the place of each term in them."""

    def __init__(self, firsts, place_of, most):
        self.firsts = firsts
        self.place_of = place_of
        # How many words the node has, and how many things these: what comes has no more.
        self.most = most


def coming(book, term):
    """The list of the terms first by text of the classes that come, by their things and their texts."""
    ground = need_ground(book)
    return [node.term() for node in _coming_of(ground, need_node(ground, term)).firsts]


def _coming_of(ground, node):
    # All kin of what comes come too: a part of a term may be exchanged for its kin.
    firsts = {kin_nodes(ground, each)[0]: True for each in _pieces(ground, node)}
    order = sorted(firsts, key=lambda each: (each.size(), each.text))
    place_of = {each: place for place, first in enumerate(order) for each in kin_nodes(ground, first)}
    return Coming(order, place_of, words_and_things(node))


def _pieces(ground, node):
    """What stands together within the kin of a node: things, summands, neighbouring factors."""
    found = {}
    for kin in kin_nodes(ground, node):
        found.update(inner_nodes(kin))
    pieces = {}
    for inner in found.values():
        pieces[inner] = True
        for row in _rows_within(inner):
            pieces[summands_together(ground, row) if inner.word == "sum" else flat_product(ground, row)] = True
    return pieces


def _rows_within(node):
    """All rows of some summands, or of neighbouring factors, of a node."""
    many = len(node.parts)
    if node.word == "sum":
        return [list(row) for size in range(1, many) for row in combinations(node.parts, size)]
    return [node.parts[first:last] for first in range(many) for last in range(first + 1, many + 1)]


def world_of(book, term):
    """A World and inputs by which just the kin of a term have its value."""
    ground = need_ground(book)
    told = _coming_of(ground, need_node(ground, term))
    kinds = book.rule().kinds()
    return _world_of_coming(ground, kinds, told), _inputs_of_coming(ground, kinds, told)


def _value_at(place):
    return "v" + name_at(place)


def _place_there(told, kinds, node):
    """The place of the value of a thing, or of a sum or product of what comes."""
    if node in told.place_of:
        return told.place_of[node]
    return _rest_place(told, kinds, node.kind)


def _rest_place(told, kinds, kind):
    return len(told.firsts) + kinds.kind_words.index(kind)


def _inputs_of_coming(ground, kinds, told):
    return {thing: _value_at(_place_there(told, kinds, node)) for thing, node in ground.things.items()}


def _world_of_coming(ground, kinds, told):
    sorts = [node.kind for node in told.firsts] + list(kinds.kind_words)
    plus = _table_of_coming(ground, kinds, told, "sum")
    times = _table_of_coming(ground, kinds, told, "product")
    holding = {
        kind: sorted([_value_at(place) for place, sort in enumerate(sorts) if sort == kind])
        for kind in kinds.kind_words
    }
    return World(plus, times, kinds, holding)


def _table_of_coming(ground, kinds, told, word):
    """The plus table, or the times table, of the values: what does not come is the rest of its kind."""
    made_of = kinds.sum_table if word == "sum" else kinds.product_table
    sorts = [node.kind for node in told.firsts] + list(kinds.kind_words)
    names = [_value_at(place) for place in range(len(sorts))]
    sizes = [words_and_things(node) for node in told.firsts]
    table = {}
    for first, one in enumerate(sorts):
        for second, other in enumerate(sorts):
            place = _rest_place(told, kinds, made_of[(one, other)])
            if max(first, second) < len(sizes) and _may_come(word, sizes[first], sizes[second], told.most):
                both = [told.firsts[first], told.firsts[second]]
                node = flat_sum(ground, both) if word == "sum" else flat_product(ground, both)
                place = told.place_of.get(node, place)
            table[(names[first], names[second])] = names[place]
    return table


def _may_come(word, one, other, most):
    """Whether a sum or a product of terms with so many words and things has no more of them than may come."""
    words, things = one[0] + other[0], one[1] + other[1]
    if word == "product":
        words, things = one[0] * other[0], one[0] * other[1] + one[1] * other[0]
    return words <= most[0] and things <= most[1]


def told_value(book, term):
    """The value that a term has in its own world by the inputs of this world."""
    ground = need_ground(book)
    node = need_node(ground, term)
    return _value_at(_coming_of(ground, node).place_of[node])


def telling_world(book, one, other):
    """Any tuple of a World that fits the rule and inputs that tell two terms apart, None if they are kin."""
    ground = need_ground(book)
    nodes = [need_node(ground, term) for term in (one, other)]
    if are_kin_nodes(ground, nodes[0], nodes[1]):
        return None
    return world_of(book, one)


def is_telling_world(book, one, other, value):
    """Whether any object is a tuple of a World that fits the rule and inputs that tell two terms apart."""
    ground = need_ground(book)
    nodes = [need_node(ground, term) for term in (one, other)]
    if not isinstance(value, tuple) or len(value) != 2 or not isinstance(value[0], World):
        return False
    world, inputs = value
    if world.kinds() != book.rule().kinds() or not are_inputs_of(world, ground, inputs):
        return False
    return fits_rule(world, book.rule()) and value_by(world, inputs, nodes[0]) != value_by(world, inputs, nodes[1])


def world_size(book, term):
    """How many values the world of a term has."""
    ground = need_ground(book)
    return len(_coming_of(ground, need_node(ground, term)).firsts) + len(book.rule().kinds().kind_words)
