"""Single spreads and gatherings of nodes, and how a node is led on to a full spread."""

from kindspreads.nodes import flat, flat_product, flat_sum, with_part
from kindspreads.rules import turned


class Opening:
    """A place at which a product could spread: a block, and a sum beside it cut into two lots."""

    def __init__(self, case, first, last, halves):
        # A case is a word and the kinds; the factors from first to last are the block and the sum;
        # each half is the row of nodes of a product: the block and a lot.
        self.case = case
        self.first = first
        self.last = last
        self.halves = halves


def cuts(ground, parts):
    """The tuples of two lots, none empty, into which summands can be cut by their places.

    The first summand is in the first lot, as triples hold for the lots in either order.
    """
    found = []
    for number in range(1, 1 << (len(parts) - 1)):
        there = [(number >> at) & 1 for at in range(len(parts) - 1)]
        one = parts[:1] + [part for part, moved in zip(parts[1:], there) if not moved]
        other = [part for part, moved in zip(parts[1:], there) if moved]
        found.append((flat_sum(ground, one), flat_sum(ground, other)))
    return found


def openings(ground, node):
    """All openings of a product at its own factors, whether the rule has their triples or not."""
    found = []
    if node.word == "product":
        for at, factor in enumerate(node.parts):
            if factor.word == "sum":
                found.extend(_openings_at(ground, node.parts, at))
    return found


def _openings_at(ground, factors, at):
    found = []
    lots = cuts(ground, factors[at].parts)
    for first in range(at):
        block = factors[first:at]
        kind = flat_product(ground, block).kind
        for one, other in lots:
            case = ("left", (kind, one.kind, other.kind))
            found.append(Opening(case, first, at, [block + [one], block + [other]]))
    for last in range(at + 1, len(factors)):
        block = factors[at + 1:last + 1]
        kind = flat_product(ground, block).kind
        for one, other in lots:
            case = ("right", (one.kind, other.kind, kind))
            found.append(Opening(case, at, last, [[one] + block, [other] + block]))
    return found


def fits(ground, case):
    """Whether the triple of a case is in the rule."""
    word, triple = case
    return triple in ground.triples[word]


def both_cases(case):
    """A case with its lots in either order."""
    word, triple = case
    return [case, (word, turned(word, triple))]


def spread_at(ground, node, opening):
    """What a product becomes if it is spread at an opening."""
    halves = [flat_product(ground, half) for half in opening.halves]
    total = flat_sum(ground, halves)
    return flat_product(ground, node.parts[:opening.first] + [total] + node.parts[opening.last + 1:])


def spread_moves(ground, node):
    """All spreads of a node, at any depth: tuples of the outcome and the case."""
    moves = [
        (spread_at(ground, node, opening), opening.case)
        for opening in openings(ground, node)
        if fits(ground, opening.case)
    ]
    for at, part in enumerate(node.parts):
        for outcome, case in spread_moves(ground, part):
            moves.append((with_part(ground, node, at, outcome), case))
    return moves


def gather_moves(ground, node):
    """All gatherings of a node, at any depth: the nodes that they make."""
    made = []
    if node.word == "sum":
        made = _gathered_here(ground, node.parts)
    for at, part in enumerate(node.parts):
        for outcome in gather_moves(ground, part):
            made.append(with_part(ground, node, at, outcome))
    return made


def _gathered_here(ground, summands):
    made = []
    for later, other in enumerate(summands):
        for sooner, one in enumerate(summands[:later]):
            rest = summands[:sooner] + summands[sooner + 1:later] + summands[later + 1:]
            for gathered in _gathered_pair(ground, one.parts, other.parts):
                made.append(flat_sum(ground, rest + [gathered]))
    return made


def _gathered_pair(ground, one, other):
    """The products that two rows of factors gather into; things have no factors, so no row."""
    made = []
    most = min(len(one), len(other)) - 1
    for many in range(1, _many_alike(one, other, most) + 1):
        block = one[:many]
        made.extend(_gathered("left", ground, block, [one[many:], other[many:]]))
    for many in range(1, _many_alike(one[::-1], other[::-1], most) + 1):
        block = one[len(one) - many:]
        made.extend(_gathered("right", ground, block, [one[:len(one) - many], other[:len(other) - many]]))
    return made


def _many_alike(one, other, most):
    """How many factors, at most so many, two rows have in common from their beginning on."""
    many = 0
    while many < most and one[many].text == other[many].text:
        many += 1
    return many


def _gathered(word, ground, block, rows):
    """The product of a block and two lots in a list, empty if the rule has no triple for it."""
    kind = flat_product(ground, block).kind
    one, other = [flat_product(ground, row) for row in rows]
    total = flat_sum(ground, [one, other])
    if word == "left":
        case, factors = (word, (kind, one.kind, other.kind)), block + [total]
    else:
        case, factors = (word, (one.kind, other.kind, kind)), [total] + block
    return [flat_product(ground, factors)] if fits(ground, case) else []


def full_nodes(ground, node):
    """ALL full spreads of a node: a dictionary from their texts."""
    fulls = {}
    seen = {node.text: True}
    ahead = [node]
    while ahead:
        there = ahead.pop()
        outcomes = [outcome for outcome, _ in spread_moves(ground, there)]
        if not outcomes:
            fulls[there.text] = there
        for outcome in outcomes:
            if outcome.text not in seen:
                seen[outcome.text] = True
                ahead.append(outcome)
    return fulls


def led_on(ground, node, known):
    """A full spread of a node, the first opening that fits being taken each time.

    What was led on is kept in a dictionary by texts, which may serve for many nodes of one ground.
    """
    if node.word == "thing":
        return node
    if node.text not in known:
        known[node.text] = _led_on_anew(ground, node, known)
    return known[node.text]


def _led_on_anew(ground, node, known):
    whole = flat(ground, node.word, [led_on(ground, part, known) for part in node.parts])
    fitting = [opening for opening in openings(ground, whole) if fits(ground, opening.case)]
    if not fitting:
        return whole
    return led_on(ground, spread_at(ground, whole, fitting[0]), known)
