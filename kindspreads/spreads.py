"""Single spreads of products over sums, and gatherings, the contrary."""

from kindspreads.errors import InvalidTerm
from kindspreads.moves import both_cases, case_of, cases_to, cuts, fits, gather_moves, places, spread_cases
from kindspreads.moves import spread_moves
from kindspreads.nodes import inner_nodes, node_in, terms_by_text
from kindspreads.terms import need_ground, need_node
from kindspreads.walks import is_one_spread


def spreads(book, term):
    """The list of the unlike outcomes of the spreads of a term, ascending by their texts."""
    ground = need_ground(book)
    return terms_by_text(spread_moves(ground, need_node(ground, term)))


def gatherings(book, term):
    """The list of the terms one of whose spreads makes this one, ascending by their texts."""
    ground = need_ground(book)
    return terms_by_text(gather_moves(ground, need_node(ground, term)))


def many_things(book, term):
    """How many things a term has, each as often as it stands."""
    return need_node(need_ground(book), term).size()


def copied(book, term, outcome):
    """How many things the block of a spread with this outcome has."""
    ground = need_ground(book)
    node = need_node(ground, term)
    return _need_outcome(ground, node, outcome).size() - node.size()


def is_spread(book, term, value):
    """Whether any object is an outcome of a spread of a term."""
    ground = need_ground(book)
    node = need_node(ground, term)
    outcome = node_in(ground, value)
    return outcome is not None and is_one_spread(ground, node, outcome)


def is_gathering(book, term, value):
    """Whether any object is a term one of whose spreads makes this one."""
    ground = need_ground(book)
    node = need_node(ground, term)
    outcome = node_in(ground, value)
    return outcome is not None and is_one_spread(ground, outcome, node)


def cases(book, term):
    """The ascending list of the unlike cases by which the spreads of a term go."""
    ground = need_ground(book)
    inner = list(inner_nodes(need_node(ground, term)).values())
    return _either_order([case for node in inner for case in spread_cases(ground, node)])


def cases_of(book, term, outcome):
    """The ascending list of the unlike cases by which the spreads with an outcome go."""
    ground = need_ground(book)
    node = need_node(ground, term)
    return _either_order(cases_to(ground, node, _need_outcome(ground, node, outcome)))


def _need_outcome(ground, node, outcome):
    there = node_in(ground, outcome)
    if there is None or there not in spread_moves(ground, node):
        raise InvalidTerm(outcome)
    return there


def lacking(book, term):
    """The ascending list of the words and kinds by which its products do not spread."""
    ground = need_ground(book)
    found = {}
    for inner in inner_nodes(need_node(ground, term)).values():
        for place in places(ground, inner):
            for one, other, _ in cuts(ground, inner.parts[place.at]):
                found[case_of(place, one, other)] = True
    return _either_order([case for case in found if not fits(ground, case)])


def _either_order(told):
    return sorted({each for case in told for each in both_cases(case)})
