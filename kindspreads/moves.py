"""Single spreads and gatherings of nodes, and how a node is led on to a full spread."""

from kindspreads.kinds import put_together
from kindspreads.nodes import flat, flat_product, flat_sum, summands_together, with_part
from kindspreads.rules import turned


class Place:
    """A place at which a product could spread: a sum among its factors, and a block directly beside it."""

    def __init__(self, word, at, first, last, kind):
        # The word tells the side of the triple: "left" if the block, which is of this kind, stands
        # ahead of the sum at `at`. Block and sum are the factors from first to last.
        self.word = word
        self.at = at
        self.first = first
        self.last = last
        self.kind = kind


def places(ground, node):
    """All places of a product at its own factors, whether the rule has their triples or not."""
    found = []
    if node.word == "product":
        for at, factor in enumerate(node.parts):
            if factor.word == "sum":
                found.extend(_places_at(ground, node.parts, at))
    return found


def _places_at(ground, factors, at):
    found = []
    for first in range(at):
        kind = row_kind(ground, factors[first:at])
        found.append(Place("left", at, first, at, kind))
    for last in range(at + 1, len(factors)):
        kind = row_kind(ground, factors[at + 1:last + 1])
        found.append(Place("right", at, at, last, kind))
    return found


def row_kind(ground, factors):
    """The kind of the product of a row of factors; one alone has its own."""
    return put_together(ground.products, [factor.kind for factor in factors])


def cuts(ground, node):
    """All ways to cut the summands of a sum, by their places, into two lots, none empty.

    Each is told by the kinds of the lots and a number, see lots_of. The first summand is in the first lot, as
    triples hold for the lots in either order.
    """
    kinds = tuple([part.kind for part in node.parts])
    if kinds not in ground.cuts:
        ground.cuts[kinds] = [_cut_at(ground, kinds, number) for number in range(1, 1 << (len(kinds) - 1))]
    return ground.cuts[kinds]


def _cut_at(ground, kinds, number):
    one, other = _lots_apart(kinds, number)
    return put_together(ground.sums, one), put_together(ground.sums, other), number


def _lots_apart(summands, number):
    """Two lots of summands: each but the first one goes where its figure in the number tells."""
    lots = [[summands[0]], []]
    for at, summand in enumerate(summands[1:]):
        lots[(number >> at) & 1].append(summand)
    return lots


def lots_of(ground, node, number):
    """The two lots of a cut of a sum."""
    key = (node, number)
    if key not in ground.lots:
        ground.lots[key] = [summands_together(ground, lot) for lot in _lots_apart(node.parts, number)]
    return ground.lots[key]


def case_of(place, one, other):
    """The word and the kinds by which a sum with two lots of these kinds would spread at a place."""
    if place.word == "left":
        return ("left", (place.kind, one, other))
    return ("right", (one, other, place.kind))


def fits(ground, case):
    """Whether the triple of a case is in the rule."""
    word, triple = case
    return triple in ground.triples[word]


def both_cases(case):
    """A case with its lots in either order."""
    word, triple = case
    return [case, (word, turned(word, triple))]


def spread_at(ground, node, place, lots):
    """What a product becomes if it is spread at a place."""
    factors = node.parts
    ahead, behind = factors[place.first:place.at], factors[place.at + 1:place.last + 1]
    total = flat_sum(ground, [flat_product(ground, ahead + [lot] + behind) for lot in lots])
    return flat_product(ground, factors[:place.first] + [total] + factors[place.last + 1:])


def spread_moves(ground, node):
    """All spreads of a node, at any depth: a dictionary from the outcomes to dictionaries of their cases.

    A case is told with its lots in one order.
    """
    if node not in ground.onward:
        ground.onward[node] = _spread_moves_anew(ground, node)
    return ground.onward[node]


def _spread_moves_anew(ground, node):
    moves = {}
    for place in places(ground, node):
        total = node.parts[place.at]
        for one, other, number in cuts(ground, total):
            case = case_of(place, one, other)
            if fits(ground, case):
                outcome = spread_at(ground, node, place, lots_of(ground, total, number))
                moves.setdefault(outcome, {})[case] = True
    for at, part in _parts_that_move(node):
        for inner, cases in spread_moves(ground, part).items():
            outcome = with_part(ground, node, at, inner)
            there = moves.setdefault(outcome, {})
            for case in cases:
                there[case] = True
    return moves


def _parts_that_move(node):
    """The places and the parts of a node that are no things: nothing becomes of a thing."""
    return [(at, part) for at, part in enumerate(node.parts) if part.parts]


def gather_moves(ground, node):
    """All gatherings of a node, at any depth: the list of the unlike nodes that they make."""
    if node not in ground.backward:
        ground.backward[node] = _gather_moves_anew(ground, node)
    return ground.backward[node]


def _gather_moves_anew(ground, node):
    made = {}
    if node.word == "sum":
        for outcome in _gathered_here(ground, node.parts):
            made[outcome] = True
    for at, part in _parts_that_move(node):
        for inner in gather_moves(ground, part):
            made[with_part(ground, node, at, inner)] = True
    return list(made)


def _gathered_here(ground, summands):
    made = []
    for later, other in enumerate(summands):
        for sooner, one in enumerate(summands[:later]):
            for gathered in _gathered_pair(ground, one.parts, other.parts):
                rest = summands[:sooner] + summands[sooner + 1:later] + summands[later + 1:]
                made.append(flat_sum(ground, rest + [gathered]))
    return made


def _gathered_pair(ground, one, other):
    """The products that two rows of factors gather into; things have no factors, so no row."""
    made = []
    most = min(len(one), len(other)) - 1
    for many in range(1, _many_alike(one, other, most) + 1):
        made.extend(_gathered(ground, "left", one[:many], [one[many:], other[many:]]))
    if most > 0 and one[-1] == other[-1]:
        for many in range(1, _many_alike(one[::-1], other[::-1], most) + 1):
            rows = [one[:len(one) - many], other[:len(other) - many]]
            made.extend(_gathered(ground, "right", one[len(one) - many:], rows))
    return made


def _many_alike(one, other, most):
    """How many factors, at most so many, two rows have in common from their beginning on."""
    many = 0
    while many < most and one[many] == other[many]:
        many += 1
    return many


def _gathered(ground, word, block, rows):
    """The product of a block and two lots in a list, empty if the rule has no triple for it."""
    kind = row_kind(ground, block)
    one, other = [row_kind(ground, row) for row in rows]
    case = (word, (kind, one, other)) if word == "left" else (word, (one, other, kind))
    if not fits(ground, case):
        return []
    total = flat_sum(ground, [flat_product(ground, row) for row in rows])
    return [flat_product(ground, block + [total] if word == "left" else [total] + block)]


def full_nodes(ground, node):
    """ALL full spreads of a node, in any order."""
    fulls = []
    seen = {node: True}
    ahead = [node]
    while ahead:
        there = ahead.pop()
        outcomes = spread_moves(ground, there)
        if not outcomes:
            fulls.append(there)
        for outcome in outcomes:
            if outcome not in seen:
                seen[outcome] = True
                ahead.append(outcome)
    return fulls


def fitting_lots(ground, place, summands):
    """Any two lots of summands that spread at a place, None if there are none.

    As only the kinds matter, no more is tried than how many summands of each kind are in a lot.
    """
    kinds = sorted([part.kind for part in summands])
    key = (place.word, place.kind, tuple(kinds))
    if key not in ground.fitting:
        ground.fitting[key] = _fitting_kinds(ground, place, kinds)
    wanted = ground.fitting[key]
    if wanted is None:
        return None
    missing = list(wanted)
    lots = [[], []]
    for part in summands:
        if part.kind in missing:
            missing.remove(part.kind)
            lots[0].append(part)
        else:
            lots[1].append(part)
    return [summands_together(ground, lot) for lot in lots]


def _fitting_kinds(ground, place, kinds):
    """The kinds of a lot, as few as can be, that fits with the lot of the others; None if there is none."""
    rows = [[]]
    for kind in sorted(set(kinds)):
        often = kinds.count(kind)
        rows = [row + [kind] * many for row in rows for many in range(often + 1)]
    for row in sorted(rows, key=len):
        if row and 2 * len(row) <= len(kinds):
            rest = list(kinds)
            for kind in row:
                rest.remove(kind)
            one, other = put_together(ground.sums, row), put_together(ground.sums, rest)
            triple = (place.kind, one, other) if place.word == "left" else (one, other, place.kind)
            if triple in ground.triples[place.word]:
                return row
    return None


def spread_here(ground, node):
    """Any outcome of a spread of a product at its own factors, None if there is none.

    Long blocks come first: then the sums that are made are seldom factors, in which they would grow.
    """
    there = places(ground, node)
    for place in sorted(there, key=lambda each: each.first - each.last):
        lots = fitting_lots(ground, place, node.parts[place.at].parts)
        if lots is not None:
            return spread_at(ground, node, place, lots)
    return None


def first_spread(ground, node):
    """Any outcome of a spread of a node, at any depth, None if there is none."""
    outcome = spread_here(ground, node)
    if outcome is not None:
        return outcome
    for at, part in enumerate(node.parts):
        inner = first_spread(ground, part)
        if inner is not None:
            return with_part(ground, node, at, inner)
    return None


def led_on(ground, node):
    """A full spread of a node: always the same one."""
    if node not in ground.fulls:
        ground.fulls[node] = _led_on_anew(ground, node)
    return ground.fulls[node]


def _led_on_anew(ground, node):
    there = node
    while there.word != "thing":
        whole = flat(ground, there.word, [led_on(ground, part) for part in there.parts])
        there = spread_here(ground, whole)
        if there is None:
            return whole
    return there
