"""Kin: terms to which spreads and gatherings, one after the other, lead from a term."""

from kindspreads.errors import Apart, InvalidRule, Refused, Unlike
from kindspreads.moves import led_on
from kindspreads.nodes import Ground, terms_by_text
from kindspreads.rules import Rule
from kindspreads.shapes import is_settled
from kindspreads.terms import need_book, need_ground, need_node
from kindspreads.walks import is_way, kin_nodes, listed_nodes, neighbours, steps_before, way_back, way_through_full
from kindspreads.wholes import is_small_node, words_and_things


def are_kin(book, one, other):
    """Whether spreads and gatherings lead from one term to another."""
    ground, nodes = _two_nodes(book, one, other)
    return are_kin_nodes(ground, nodes[0], nodes[1])


def _two_nodes(book, one, other):
    """The ground of a book and the list of the nodes of two terms."""
    ground = need_ground(book)
    return ground, [need_node(ground, term) for term in (one, other)]


def are_kin_nodes(ground, one, other):
    """Whether two nodes are kin."""
    if one == other:
        return True
    # Kin have the same kind, and the same words.
    if one.kind != other.kind or words_and_things(one) != words_and_things(other):
        return False
    if _is_led_through_full(ground, one):
        return led_on(ground, one) == led_on(ground, other)
    return other in kin_nodes(ground, one)


def _is_led_through_full(ground, node):
    """Whether to go by way of full spreads of a settled rule."""
    # Small terms have few kin, which are found sooner than what is settled.
    return not is_small_node(node) and is_settled(ground.rule)


def chain(book, one, other):
    """Any list of terms from one to another, each an outcome of a spread or a gathering of the one ahead."""
    ground, nodes = _two_nodes(book, one, other)
    if not are_kin_nodes(ground, nodes[0], nodes[1]):
        raise Apart(other)
    if _is_led_through_full(ground, nodes[0]):
        way = way_through_full(ground, nodes[0], nodes[1])
    else:
        way = way_back(steps_before(ground, nodes[0]), nodes[1])
    return [node.term() for node in way]


def is_chain(book, one, other, value):
    """Whether any object is a chain from one term to another, of whatever length."""
    ground, ends = _two_nodes(book, one, other)
    nodes = listed_nodes(ground, value)
    if not nodes or [nodes[0], nodes[-1]] != ends:
        return False
    return is_way(ground, nodes)


def is_closed(book, value):
    """Whether any object is an ascending list of terms that has all outcomes of each of them."""
    ground = need_ground(book)
    return _is_closed_list(ground, listed_nodes(ground, value))


def _is_closed_list(ground, nodes):
    if not nodes:
        return False
    texts = [node.text for node in nodes]
    there = {node: True for node in nodes}
    if texts != sorted(texts) or len(there) != len(nodes):
        return False
    return all([other in there for node in nodes for other in neighbours(ground, node)])


def apart_paper(book, one, other):
    """Any closed list that has one term and not another."""
    ground, nodes = _two_nodes(book, one, other)
    if are_kin_nodes(ground, nodes[0], nodes[1]):
        raise Refused(other)
    return [node.term() for node in kin_nodes(ground, nodes[0])]


def is_apart_paper(book, one, other, value):
    """Whether any object is a closed list that has one term and not another."""
    ground, ends = _two_nodes(book, one, other)
    nodes = listed_nodes(ground, value)
    if not nodes or ends[0] not in nodes or ends[1] in nodes:
        return False
    return _is_closed_list(ground, nodes)


def beside(book, term):
    """The list of the unlike outcomes of the spreads and gatherings of a term, ascending by their texts."""
    ground = need_ground(book)
    return terms_by_text(neighbours(ground, need_node(ground, term)))


def is_alone(book, term):
    """Whether a term has neither a spread nor a gathering."""
    return not beside(book, term)


def kin_by(book, rule, one, other):
    """Whether two terms are kin in the book of the same things over another rule."""
    need_book(book)
    if not isinstance(rule, Rule):
        raise InvalidRule(rule)
    if rule.kinds() != book.rule().kinds():
        raise Unlike(rule)
    return are_kin_over(rule, book.things(), one, other)


def are_kin_over(rule, things, one, other):
    """Whether two terms are kin in a book of a rule and of things."""
    ground = Ground(rule, things)
    nodes = [need_node(ground, term) for term in (one, other)]
    return are_kin_nodes(ground, nodes[0], nodes[1])
