"""Classes: ALL terms that are kin with a term, and the fewest steps between them."""

from kindspreads.errors import Apart, InvalidCount, InvalidRule, Refused, Unlike
from kindspreads.kin import are_kin_nodes, are_kin_over
from kindspreads.kinds import triples_holding
from kindspreads.nodes import Ground, node_of
from kindspreads.plain import is_count_below
from kindspreads.rules import SIDES, Rule, is_within, rule_with, turned, with_turned
from kindspreads.terms import need_ground, need_node
from kindspreads.walks import is_way, kin_nodes, listed_nodes, steps_before, tally, way_back
from kindspreads.wholes import node_words


def class_of(book, term):
    """The list of ALL kin of a term, itself among them, ascending by their texts."""
    return [node.term() for node in _kin_of(book, term)]


def _kin_of(book, term):
    ground = need_ground(book)
    return kin_nodes(ground, need_node(ground, term))


def class_size(book, term):
    """How many kin a term has, itself among them."""
    return len(_kin_of(book, term))


def by_things(book, term):
    """The dictionary from the numbers of things that kin have, ascending, to how many have so many."""
    return tally([node.size() for node in _kin_of(book, term)])


def class_at(book, term, number):
    """The term at a position of a class."""
    kin = _kin_of(book, term)
    if not is_count_below(number, len(kin)):
        raise InvalidCount(number)
    return kin[number].term()


def class_place(book, one, other):
    """The position of one term in the class of another."""
    ground, nodes = _two_nodes(book, one, other)
    kin = kin_nodes(ground, nodes[0])
    if nodes[1] not in kin:
        raise Apart(other)
    return kin.index(nodes[1])


def _two_nodes(book, one, other):
    ground = need_ground(book)
    return ground, [need_node(ground, term) for term in (one, other)]


def fewest_steps(book, one, other):
    """The least number of spreads and gatherings that lead from one term to another, None if they are not kin."""
    way = shortest_chain(book, one, other)
    if way is None:
        return None
    return len(way) - 1


def shortest_chain(book, one, other):
    """Any chain between two terms with as few steps as can be, None if they are not kin."""
    ground, nodes = _two_nodes(book, one, other)
    way = _shortest_way(ground, nodes)
    if way is None:
        return None
    return [node.term() for node in way]


def _shortest_way(ground, nodes):
    before = steps_before(ground, nodes[0])
    if nodes[1] not in before:
        return None
    return way_back(before, nodes[1])


def is_shortest_chain(book, one, other, value):
    """Whether any object is a chain between two terms with as few steps as can be."""
    ground, ends = _two_nodes(book, one, other)
    nodes = listed_nodes(ground, value)
    if not nodes or [nodes[0], nodes[-1]] != ends or not is_way(ground, nodes):
        return False
    return len(nodes) == len(_shortest_way(ground, ends))


def farthest(book, term):
    """The greatest least number of steps from a term to any kin."""
    ground = need_ground(book)
    before = steps_before(ground, need_node(ground, term))
    # The walk reaches terms by their steps: the last one is as far as any.
    return len(way_back(before, list(before)[-1])) - 1


def fewest_things(book, term):
    """The list of the kin with as few things as any kin has, ascending by their texts."""
    kin = _kin_of(book, term)
    fewest = min([node.size() for node in kin])
    return [node.term() for node in kin if node.size() == fewest]


def parted(book, term, rule):
    """The list of the classes into which the class of a term falls if just the triples of a lesser rule are there."""
    kin = _kin_of(book, term)
    if not isinstance(rule, Rule):
        raise InvalidRule(rule)
    if rule.kinds() != book.rule().kinds() or not is_within(rule, book.rule()):
        raise Unlike(rule)
    ground = Ground(rule, book.things())
    firsts = {kin_nodes(ground, node_of(ground, node.term()))[0]: True for node in kin}
    return [[node.term() for node in kin_nodes(ground, first)] for first in firsts]


def linking(book, one, other):
    """The list of the words and triples that are not in the rule and by each of which two terms become kin."""
    ground, nodes = _two_nodes(book, one, other)
    if are_kin_nodes(ground, nodes[0], nodes[1]):
        raise Refused(other)
    # By no rule are terms of unlike words kin.
    if node_words(nodes[0]) != node_words(nodes[1]):
        return []
    rule = book.rule()
    cases = [
        (side, triple)
        for side in SIDES
        for triple in triples_holding(rule.kinds(), side)
        if triple not in rule.triples[side] and triple <= turned(side, triple)
    ]
    return [case for case in cases if are_kin_over(_rule_with_case(rule, case), book.things(), one, other)]


def _rule_with_case(rule, case):
    side, triple = case
    both = with_turned(side, [triple])
    return rule_with(rule, both, []) if side == "left" else rule_with(rule, [], both)
