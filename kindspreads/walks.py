"""Walks from node to node by single spreads and gatherings: classes, and shortest ways."""

from kindspreads.moves import first_spread, gather_moves, spread_moves
from kindspreads.nodes import by_text, node_in


def neighbours(ground, node):
    """The unlike outcomes of the spreads and the gatherings of a node; none is both, as spreads make more things."""
    return spread_moves(ground, node) + gather_moves(ground, node)


def kin_nodes(ground, node):
    """ALL kin of a node, itself among them, ascending by their texts; the list is not to be changed."""
    if node not in ground.classes:
        found = {node: True}
        ahead = [node]
        while ahead:
            there = ahead.pop()
            for other in neighbours(ground, there):
                if other not in found:
                    found[other] = True
                    ahead.append(other)
        kin = by_text(found)
        for each in kin:
            ground.classes[each] = kin
    return ground.classes[node]


def steps_before(ground, node):
    """A dictionary from all kin, by their steps from a node, to the nodes ahead of them on a shortest way."""
    before = {node: None}
    ahead = [node]
    while ahead:
        reached = []
        for there in ahead:
            for other in neighbours(ground, there):
                if other not in before:
                    before[other] = there
                    reached.append(other)
        ahead = reached
    return before


def way_back(before, node):
    """The nodes of a walk, from its beginning to a node, by the ones ahead of each."""
    way = [node]
    while before[way[-1]] is not None:
        way.append(before[way[-1]])
    return way[::-1]


def spreading_nodes(ground, node):
    """A list of nodes from one to a full spread, each but the first an outcome of a spread of the one ahead."""
    way = [node]
    outcome = first_spread(ground, node)
    while outcome is not None:
        way.append(outcome)
        outcome = first_spread(ground, outcome)
    return way


def listed_nodes(ground, value):
    """The nodes of any object that is a list of terms of the ground's things, None of any other one."""
    if not isinstance(value, list):
        return None
    nodes = [node_in(ground, each) for each in value]
    return None if None in nodes else nodes


def is_one_spread(ground, one, other):
    """Whether a node is an outcome of a spread of another one.

    It is looked for among the gatherings: they go through pairs where spreads go through very many lots.
    """
    return one.size() < other.size() and one in gather_moves(ground, other)


def is_way_of_spreads(ground, nodes):
    """Whether each of some nodes but the first is an outcome of a spread of the one ahead."""
    return all([is_one_spread(ground, one, other) for one, other in zip(nodes, nodes[1:])])


def is_way(ground, nodes):
    """Whether each of some nodes but the first is an outcome of a spread, or a gathering, of the one ahead."""
    for one, other in zip(nodes, nodes[1:]):
        if not is_one_spread(ground, one, other) and not is_one_spread(ground, other, one):
            return False
    return True


def way_through_full(ground, one, other):
    """A way between two nodes that have one full spread, by spreads and then by gatherings."""
    ahead, behind = spreading_nodes(ground, one), spreading_nodes(ground, other)
    places = {node: at for at, node in enumerate(behind)}
    meeting = [node for node in ahead if node in places][0]
    return ahead[:ahead.index(meeting)] + behind[:places[meeting] + 1][::-1]


def tally(numbers):
    """The dictionary from some numbers, ascending, to how often each is there."""
    return {number: numbers.count(number) for number in sorted(set(numbers))}
