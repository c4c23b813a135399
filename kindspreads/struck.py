"""What stands on both sides and may be struck out, and what summands and factors make kin of others."""

from itertools import combinations

from kindspreads.errors import InvalidTerm, InvalidTerms, InvalidWord, Refused, Unsettled
from kindspreads.kin import are_kin_nodes
from kindspreads.nodes import flat_product, flat_sum, summands_together
from kindspreads.plain import is_one_of
from kindspreads.shapes import is_settled
from kindspreads.terms import need_ground, need_node
from kindspreads.walks import listed_nodes

BESIDE = ("ahead", "behind")
MOST_TERMS = 6


def common(book, one, other):
    """The list of the summands of both terms, each as often as it is in both, ascending by their texts."""
    _, nodes = _two_nodes(book, one, other)
    return [node.term() for node in _struck_apart(nodes)[0]]


def _two_nodes(book, one, other):
    """The ground of a book and the list of the nodes of two terms."""
    ground = need_ground(book)
    return ground, [need_node(ground, term) for term in (one, other)]


def _struck_apart(nodes):
    """The summands that two nodes have in common, those that the first one has besides, and those of the second one."""
    both = []
    first = []
    second = list(_summands(nodes[1]))
    for summand in _summands(nodes[0]):
        if summand in second:
            second.remove(summand)
            both.append(summand)
        else:
            first.append(summand)
    return both, first, second


def _summands(node):
    return node.parts if node.word == "sum" else [node]


def struck(book, one, other):
    """The tuple of what is left of two terms if their common summands are struck out, None where nothing is left."""
    ground, nodes = _two_nodes(book, one, other)
    one_left, other_left = _nodes_left(ground, nodes)
    return _term_left(one_left), _term_left(other_left)


def _nodes_left(ground, nodes):
    """What is left of two nodes if their common summands are struck out."""
    _, first, second = _struck_apart(nodes)
    return [summands_together(ground, row) if row else None for row in (first, second)]


def _term_left(node):
    return None if node is None else node.term()


def kin_struck(book, one, other):
    """Whether two terms are kin, told by what is left if their common summands are struck out."""
    ground, nodes = _two_nodes(book, one, other)
    if not is_settled(book.rule()):
        raise Unsettled(book)
    one_left, other_left = _nodes_left(ground, nodes)
    if one_left is None or other_left is None:
        return one_left is None and other_left is None
    return are_kin_nodes(ground, one_left, other_left)


def frees(book, one, other, third):
    """Whether two terms that are not kin become kin if a third one is put to both as a summand."""
    ground, nodes = _two_nodes(book, one, other)
    summand = need_node(ground, third)
    _need_apart(ground, nodes, other)
    return _are_kin_with(ground, nodes, summand)


def _need_apart(ground, nodes, other):
    """Raise an error with the second one of two terms if they are kin."""
    if are_kin_nodes(ground, nodes[0], nodes[1]):
        raise Refused(other)


def _are_kin_with(ground, nodes, summand):
    """Whether two nodes are kin if a third one is put to both as a summand."""
    one, other = [flat_sum(ground, [node, summand]) for node in nodes]
    return are_kin_nodes(ground, one, other)


def freeing_things(book, one, other):
    """The list of the things that make kin of two terms if they are put to both as a summand, ascending."""
    ground, nodes = _two_nodes(book, one, other)
    _need_apart(ground, nodes, other)
    return [thing for thing, node in ground.things.items() if _are_kin_with(ground, nodes, node)]


def hides(book, one, other, thing, word):
    """Whether two terms that are not kin become kin if a thing is put ahead of both, or behind both, as a factor."""
    ground, nodes = _two_nodes(book, one, other)
    if not is_one_of(thing, ground.things):
        raise InvalidTerm(thing)
    if not is_one_of(word, BESIDE):
        raise InvalidWord(word)
    _need_apart(ground, nodes, other)
    return _are_kin_by_factor(ground, nodes, ground.things[thing], word)


def _are_kin_by_factor(ground, nodes, factor, word):
    rows = [[factor, node] if word == "ahead" else [node, factor] for node in nodes]
    one, other = [flat_product(ground, row) for row in rows]
    return are_kin_nodes(ground, one, other)


def hiding_things(book, one, other):
    """The ascending list of the words and things that make kin of two terms as a factor on this side."""
    ground, nodes = _two_nodes(book, one, other)
    _need_apart(ground, nodes, other)
    return [
        (word, thing)
        for word in BESIDE
        for thing, factor in ground.things.items()
        if _are_kin_by_factor(ground, nodes, factor, word)
    ]


def kin_pairs(book, terms):
    """The ascending list of the tuples of two positions, rising, of terms that are kin."""
    ground = need_ground(book)
    return _pairs_of_kin(ground, _need_few_nodes(ground, terms))


def _need_few_nodes(ground, terms):
    """The nodes of a list of terms, perhaps empty, of at most six; an error for what is none."""
    nodes = listed_nodes(ground, terms)
    if nodes is None or len(nodes) > MOST_TERMS:
        raise InvalidTerms(terms)
    return nodes


def _pairs_of_kin(ground, nodes):
    return [
        (one, other)
        for one, other in combinations(range(len(nodes)), 2)
        if are_kin_nodes(ground, nodes[one], nodes[other])
    ]


def pairs_with(book, terms, third):
    """The ascending list of the tuples of two positions, rising, of terms that are kin with a third one put to each."""
    ground = need_ground(book)
    nodes = _need_few_nodes(ground, terms)
    summand = need_node(ground, third)
    return _pairs_of_kin(ground, [flat_sum(ground, [node, summand]) for node in nodes])
