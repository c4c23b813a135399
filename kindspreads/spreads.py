"""Single spreads of products over sums, and gatherings, the contrary."""

from kindspreads.errors import InvalidTerm
from kindspreads.moves import both_cases, fits, gather_moves, openings, spread_moves
from kindspreads.nodes import by_text, inner_nodes, things_within
from kindspreads.terms import ground_of, node_in, term_node


def spreads(book, term):
    """The list of the unlike outcomes of the spreads of a term, ascending by their texts."""
    return by_text([outcome for outcome, _ in _moves_of(book, term)])


def gatherings(book, term):
    """The list of the terms one of whose spreads makes this one, ascending by their texts."""
    return by_text(_gathered_from(book, term))


def _moves_of(book, term):
    node = term_node(book, term)
    return spread_moves(ground_of(book), node)


def _gathered_from(book, term):
    node = term_node(book, term)
    return gather_moves(ground_of(book), node)


def many_things(book, term):
    """How many things a term has, each as often as it stands."""
    term_node(book, term)
    return len(things_within(term))


def copied(book, term, outcome):
    """How many things the block of a spread with this outcome has."""
    _cases_of_outcome(book, term, outcome)
    return len(things_within(outcome)) - len(things_within(term))


def is_spread(book, term, value):
    """Whether any object is an outcome of a spread of a term."""
    outcomes = [outcome for outcome, _ in _moves_of(book, term)]
    return _is_among(book, outcomes, value)


def is_gathering(book, term, value):
    """Whether any object is a term one of whose spreads makes this one."""
    return _is_among(book, _gathered_from(book, term), value)


def _is_among(book, nodes, value):
    node = node_in(ground_of(book), value)
    return node is not None and node.text in [each.text for each in nodes]


def cases(book, term):
    """The ascending list of the unlike cases by which the spreads of a term go."""
    return _either_order([case for _, case in _moves_of(book, term)])


def cases_of(book, term, outcome):
    """The ascending list of the unlike cases by which the spreads with an outcome go."""
    return _either_order(_cases_of_outcome(book, term, outcome))


def _cases_of_outcome(book, term, outcome):
    moves = _moves_of(book, term)
    node = node_in(ground_of(book), outcome)
    found = [case for made, case in moves if node is not None and made.text == node.text]
    if not found:
        raise InvalidTerm(outcome)
    return found


def lacking(book, term):
    """The ascending list of the words and kinds by which its products do not spread."""
    node = term_node(book, term)
    ground = ground_of(book)
    products = list(inner_nodes(node).values())
    told = [opening.case for inner in products for opening in openings(ground, inner)]
    return _either_order([case for case in told if not fits(ground, case)])


def _either_order(told):
    return sorted({each for case in told for each in both_cases(case)})
