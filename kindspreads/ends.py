"""Ends: terms that no gathering fits, and those of them that stand among the kin of a term."""

from kindspreads.moves import gather_moves
from kindspreads.nodes import terms_by_text
from kindspreads.prices import signs_of
from kindspreads.spreads import is_gathering
from kindspreads.terms import need_ground, need_node
from kindspreads.walks import is_one_spread, kin_nodes, listed_nodes


def is_end(book, term):
    """Whether no gathering fits a term."""
    return why_no_end(book, term) is None


def why_no_end(book, term):
    """Any outcome of a gathering of a term, None if there is none."""
    ground = need_ground(book)
    outcomes = gather_moves(ground, need_node(ground, term))
    return outcomes[0].term() if outcomes else None


def is_why_no_end(book, term, value):
    """Whether any object is an outcome of a gathering of a term."""
    return is_gathering(book, term, value)


def gathered(book, term):
    """Any list of terms from a term to an end, each but the first an outcome of a gathering of the one ahead."""
    ground = need_ground(book)
    way = [need_node(ground, term)]
    while gather_moves(ground, way[-1]):
        way.append(gather_moves(ground, way[-1])[0])
    return [node.term() for node in way]


def is_gathered(book, term, value):
    """Whether any object is a list of terms from a term to an end by single gatherings."""
    ground = need_ground(book)
    node = need_node(ground, term)
    nodes = listed_nodes(ground, value)
    if not nodes or nodes[0] != node or gather_moves(ground, nodes[-1]):
        return False
    return all([is_one_spread(ground, other, one) for one, other in zip(nodes, nodes[1:])])


def ends_reached(book, term):
    """The list of the ends to which gatherings alone lead from a term, ascending by their texts."""
    ground = need_ground(book)
    return terms_by_text(_ends_gathered(ground, need_node(ground, term)))


def _ends_gathered(ground, node):
    """The ends to which gatherings alone lead from a node: a dictionary of these."""
    ends = {}
    seen = {node: True}
    ahead = [node]
    while ahead:
        there = ahead.pop()
        outcomes = gather_moves(ground, there)
        if not outcomes:
            ends[there] = True
        for outcome in outcomes:
            if outcome not in seen:
                seen[outcome] = True
                ahead.append(outcome)
    return ends


def all_ends(book, term):
    """The list of ALL ends among the terms kin with a term, ascending by their texts."""
    ground = need_ground(book)
    return [node.term() for node in _kin_ends(ground, need_node(ground, term))]


def _kin_ends(ground, node):
    return [kin for kin in kin_nodes(ground, node) if not gather_moves(ground, kin)]


def many_ends(book, term):
    """How many ends are kin with a term."""
    return len(all_ends(book, term))


def missed_ends(book, term):
    """The list of the kin ends to which gatherings alone do not lead from a term, ascending by their texts."""
    ground = need_ground(book)
    node = need_node(ground, term)
    reached = _ends_gathered(ground, node)
    return [end.term() for end in _kin_ends(ground, node) if end not in reached]


def has_one_end(book, term):
    """Whether there is just one end among the terms kin with a term."""
    return many_ends(book, term) == 1


def fewest_ends(book, term):
    """The list of the kin ends with as few times signs as any kin term has, ascending by their texts."""
    ground = need_ground(book)
    # A gathering leaves fewer times signs: a term with the fewest is an end.
    ends = _kin_ends(ground, need_node(ground, term))
    fewest = min([signs_of(end, "product") for end in ends])
    return [end.term() for end in ends if signs_of(end, "product") == fewest]
