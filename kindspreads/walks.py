"""Walks from node to node by single spreads and gatherings: classes, and shortest ways."""

from kindspreads.moves import gather_moves, spread_moves
from kindspreads.nodes import by_text


def neighbours(ground, node):
    """The unlike outcomes of the spreads and the gatherings of a node; none is both, as spreads make more things."""
    return list(spread_moves(ground, node)) + gather_moves(ground, node)


def kin_nodes(ground, node):
    """ALL kin of a node, itself among them, ascending by their texts; the list is not to be changed."""
    if node.kin is None:
        found = {node: True}
        ahead = [node]
        while ahead:
            for other in neighbours(ground, ahead.pop()):
                if other not in found:
                    found[other] = True
                    ahead.append(other)
        kin = by_text(found)
        for each in kin:
            each.kin = kin
    return node.kin


def steps_before(ground, node):
    """A dictionary from all kin, by their steps from a node, to the nodes ahead of them on a shortest way."""
    before = {node: None}
    ahead = [node]
    while ahead:
        reached = []
        for there in ahead:
            for other in neighbours(ground, there):
                if other not in before:
                    before[other] = there
                    reached.append(other)
        ahead = reached
    return before
