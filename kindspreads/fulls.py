"""Full spreads: terms that spread no further, and the ways of spreads that lead to them."""

from kindspreads.errors import Unsettled
from kindspreads.moves import first_spread, full_nodes, led_on, spread_moves
from kindspreads.nodes import terms_by_text
from kindspreads.shapes import is_settled
from kindspreads.terms import need_ground, need_node
from kindspreads.walks import is_way_of_spreads, listed_nodes, spreading_nodes, way_back


def is_full(book, term):
    """Whether a term has no spread."""
    ground = need_ground(book)
    return first_spread(ground, need_node(ground, term)) is None


def full_spreads(book, term):
    """The list of ALL full spreads of a small term, ascending by their texts."""
    ground = need_ground(book)
    return terms_by_text(full_nodes(ground, need_node(ground, term)))


def full_spread(book, term):
    """The full spread of a term of a book whose rule is settled."""
    return _settled_nodes(book, term)[1].term()


def copied_things(book, term):
    """How many things the full spread has more than the term."""
    node, full = _settled_nodes(book, term)
    return full.size() - node.size()


def _settled_nodes(book, term):
    """The nodes of a term and of its full spread; an error for a book whose rule is not settled."""
    ground = need_ground(book)
    node = need_node(ground, term)
    if not is_settled(book.rule()):
        raise Unsettled(book)
    return node, led_on(ground, node)


def spreading(book, term):
    """Any list of terms from a term to a full spread, each but the first an outcome of the one ahead."""
    ground = need_ground(book)
    return [node.term() for node in spreading_nodes(ground, need_node(ground, term))]


def is_spreading(book, term, value):
    """Whether any object is a list from a term to a full spread by single spreads."""
    ground = need_ground(book)
    return _is_way_to_full(ground, need_node(ground, term), value)


def _is_way_to_full(ground, node, value):
    nodes = listed_nodes(ground, value)
    if not nodes or nodes[0] != node:
        return False
    return is_way_of_spreads(ground, nodes) and first_spread(ground, nodes[-1]) is None


def fewest_spreads(book, term):
    """The least number of spreads that lead from a small term to a full spread."""
    ground = need_ground(book)
    return len(_shortest_way(ground, need_node(ground, term))) - 1


def most_spreads(book, term):
    """The greatest number of spreads that lead from a small term to a full spread."""
    ground = need_ground(book)
    return _longest(ground, need_node(ground, term), {})


def _longest(ground, node, known):
    """The greatest number of spreads from a node on; a dictionary keeps what was found out about nodes."""
    if node not in known:
        further = [_longest(ground, outcome, known) for outcome in spread_moves(ground, node)]
        known[node] = 1 + max(further) if further else 0
    return known[node]


def shortest_spreading(book, term):
    """Any list from a small term to a full spread with as few spreads as can be."""
    ground = need_ground(book)
    return [node.term() for node in _shortest_way(ground, need_node(ground, term))]


def is_shortest_spreading(book, term, value):
    """Whether any object is a list from a small term to a full spread with as few spreads as can be."""
    ground = need_ground(book)
    node = need_node(ground, term)
    return _is_way_to_full(ground, node, value) and len(value) == len(_shortest_way(ground, node))


def _shortest_way(ground, node):
    before = {node: None}
    ahead = [node]
    while all([spread_moves(ground, there) for there in ahead]):
        reached = []
        for there in ahead:
            for outcome in spread_moves(ground, there):
                if outcome not in before:
                    before[outcome] = there
                    reached.append(outcome)
        ahead = reached
    fulls = [there for there in ahead if not spread_moves(ground, there)]
    return way_back(before, fulls[0])


def kept_sums(book, term):
    """How many sums are factors of products in the full spread, at any depth, equal ones as often as they stand."""
    return _sums_as_factors(_settled_nodes(book, term)[1])


def _sums_as_factors(node):
    own = [part for part in node.parts if node.word == "product" and part.word == "sum"]
    return len(own) + sum([_sums_as_factors(part) for part in node.parts])


def summands_kept(book, term):
    """How many summands the full spread has, 1 unless it is a sum."""
    full = _settled_nodes(book, term)[1]
    return len(full.parts) if full.word == "sum" else 1
