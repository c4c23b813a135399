"""Single spreads and gatherings of nodes, and how a node is led on to a full spread."""

from kindspreads.kinds import put_together
from kindspreads.nodes import factors_together, flat, flat_product, flat_sum, summands_together, with_part
from kindspreads.rules import turned


class Place:
    """A place at which a product could spread: a sum among its factors, and a block directly beside it."""

    def __init__(self, word, at, first, last, kind):
        # The word tells the side of the triple: "left" if the block, which is of this kind, stands
        # ahead of the sum at `at`. Block and sum are the factors from first to last.
        self.word = word
        self.at = at
        self.first = first
        self.last = last
        self.kind = kind


def places(ground, node):
    """All places of a product at its own factors, whether the rule has their triples or not."""
    found = []
    if node.word == "product":
        for at, factor in enumerate(node.parts):
            if factor.word == "sum":
                found.extend(_places_at(ground, node.parts, at))
    return found


def _places_at(ground, factors, at):
    found = []
    for first in range(at):
        kind = row_kind(ground, factors[first:at])
        found.append(Place("left", at, first, at, kind))
    for last in range(at + 1, len(factors)):
        kind = row_kind(ground, factors[at + 1:last + 1])
        found.append(Place("right", at, at, last, kind))
    return found


def row_kind(ground, factors):
    """The kind of the product of a row of factors; one alone has its own."""
    return put_together(ground.products, [factor.kind for factor in factors])


def cuts(ground, node):
    """All ways to cut the summands of a sum, by their places, into two lots, none empty.

    Each is told by the kinds of the lots and a number, see lots_of. The first summand is in the first lot, as
    triples hold for the lots in either order.
    """
    kinds = node.part_kinds
    if kinds not in ground.cuts:
        ground.cuts[kinds] = _cuts_anew(ground, kinds)
    return ground.cuts[kinds]


def _cuts_anew(ground, kinds):
    # The kinds of all lots, at the numbers whose figures of two tell which summands are in them.
    made = [None]
    for kind in kinds:
        made = made + [kind if lot is None else ground.sums[(lot, kind)] for lot in made]
    whole = len(made) - 1
    return [(made[whole - number], made[number], number) for number in range(2, whole, 2)]


def lots_of(ground, node, number):
    """The two lots of a cut of a sum: the figures of two of the number tell which summands are in the second one."""
    key = (node, number)
    if key not in ground.lots:
        lots = [[], []]
        for at, summand in enumerate(node.parts):
            lots[(number >> at) & 1].append(summand)
        ground.lots[key] = [summands_together(ground, lot) for lot in lots]
    return ground.lots[key]


def case_of(place, one, other):
    """The word and the kinds by which a sum with two lots of these kinds would spread at a place."""
    if place.word == "left":
        return ("left", (place.kind, one, other))
    return ("right", (one, other, place.kind))


def fits(ground, case):
    """Whether the triple of a case is in the rule."""
    word, triple = case
    return triple in ground.triples[word]


def both_cases(case):
    """A case with its lots in either order."""
    word, triple = case
    return [case, (word, turned(word, triple))]


class Plan:
    """A way to spread a product: a place, the number of a cut of its sum, and the case with its lots in one order."""

    def __init__(self, place, number, case):
        self.place = place
        self.number = number
        self.case = case


def _plans(ground, node):
    """All plans to spread a product at its own factors: they hang on the kinds of these and of their summands alone."""
    if node.word != "product" or node.is_row:
        return []
    key = tuple([(factor.kind, factor.part_kinds) if factor.word == "sum" else factor.kind for factor in node.parts])
    if key not in ground.plans:
        ground.plans[key] = _plans_anew(ground, node)
    return ground.plans[key]


def _plans_anew(ground, node):
    found = []
    for place in places(ground, node):
        if place.kind in ground.blocks[place.word]:
            for one, other, number in cuts(ground, node.parts[place.at]):
                case = case_of(place, one, other)
                if fits(ground, case):
                    found.append(Plan(place, number, case))
    return found


def spread_at(ground, node, place, lots):
    """What a product becomes if it is spread at a place."""
    factors = node.parts
    ahead, behind = factors[place.first:place.at], factors[place.at + 1:place.last + 1]
    rows = [lot.parts if lot.word == "product" else [lot] for lot in lots]
    total = summands_together(ground, [factors_together(ground, ahead + row + behind) for row in rows])
    return factors_together(ground, factors[:place.first] + [total] + factors[place.last + 1:])


def _spread_by(ground, node, plan):
    """What a product becomes if it is spread by a plan."""
    lots = lots_of(ground, node.parts[plan.place.at], plan.number)
    return spread_at(ground, node, plan.place, lots)


def spread_moves(ground, node):
    """All spreads of a node, at any depth: the list of the unlike nodes that they make."""
    if node not in ground.onward:
        made = {_spread_by(ground, node, plan): True for plan in _plans(ground, node)}
        for at, part in enumerate(node.parts):
            if not part.is_row:
                for inner in spread_moves(ground, part):
                    made[with_part(ground, node, at, inner)] = True
        ground.onward[node] = list(made)
    return ground.onward[node]


def spread_cases(ground, node):
    """The cases by which a product spreads at its own factors, with the lots in one order."""
    return [plan.case for plan in _plans(ground, node)]


def cases_to(ground, node, outcome):
    """The cases by which spreads of a node, at any depth, have an outcome, with the lots in one order."""
    found = [plan.case for plan in _plans(ground, node) if _spread_by(ground, node, plan) == outcome]
    for at, part in enumerate(node.parts):
        for inner in spread_moves(ground, part):
            if with_part(ground, node, at, inner) == outcome:
                found.extend(cases_to(ground, part, inner))
    return found


def gather_moves(ground, node):
    """All gatherings of a node, at any depth: the list of the unlike nodes that they make."""
    if node not in ground.backward:
        made = {outcome: True for outcome in _gathered_here(ground, node)}
        for at, part in enumerate(node.parts):
            if not part.is_row:
                for inner in gather_moves(ground, part):
                    made[with_part(ground, node, at, inner)] = True
        ground.backward[node] = list(made)
    return ground.backward[node]


def _gathered_here(ground, node):
    """What a sum becomes if two of its summands, which have to be products, are gathered."""
    if node.word != "sum":
        return []
    made = []
    summands = node.parts
    products = [(at, part) for at, part in enumerate(summands) if part.word == "product"]
    for many, (later, other) in enumerate(products):
        for sooner, one in products[:many]:
            if one.parts[0] == other.parts[0] or one.parts[-1] == other.parts[-1]:
                rest = summands[:sooner] + summands[sooner + 1:later] + summands[later + 1:]
                for gathered in _gathered_pair(ground, one, other):
                    made.append(summands_together(ground, rest + [gathered]))
    return made


def _gathered_pair(ground, one, other):
    """The products that two products gather into."""
    if (one, other) not in ground.gathered:
        ground.gathered[(one, other)] = _gathered_pair_anew(ground, one, other)
    return ground.gathered[(one, other)]


def _gathered_pair_anew(ground, one, other):
    made = []
    some, others = _splits(ground, one), _splits(ground, other)
    # What both begin with is the block of a left triple, what both end with that of a right one.
    for (head, tail), (other_head, other_tail) in zip(some, others):
        if head == other_head and (head.kind, tail.kind, other_tail.kind) in ground.triples["left"]:
            made.append(flat_product(ground, [head, flat_sum(ground, [tail, other_tail])]))
    for (head, tail), (other_head, other_tail) in zip(some[::-1], others[::-1]):
        if tail == other_tail and (head.kind, other_head.kind, tail.kind) in ground.triples["right"]:
            made.append(flat_product(ground, [flat_sum(ground, [head, other_head]), tail]))
    return made


def _splits(ground, node):
    """The tuples of what a product begins with and of what is left, rising by the number of factors ahead."""
    if node not in ground.splits:
        factors = node.parts
        ground.splits[node] = [
            (factors_together(ground, factors[:at]), factors_together(ground, factors[at:]))
            for at in range(1, len(factors))
        ]
    return ground.splits[node]


def full_nodes(ground, node):
    """ALL full spreads of a node, in any order."""
    fulls = []
    seen = {node: True}
    ahead = [node]
    while ahead:
        there = ahead.pop()
        outcomes = spread_moves(ground, there)
        if not outcomes:
            fulls.append(there)
        for outcome in outcomes:
            if outcome not in seen:
                seen[outcome] = True
                ahead.append(outcome)
    return fulls


def fitting_lots(ground, place, summands):
    """Any two lots of summands that spread at a place, None if there are none.

    As only the kinds matter, no more is tried than how many summands of each kind are in a lot.
    """
    kinds = sorted([part.kind for part in summands])
    key = (place.word, place.kind, tuple(kinds))
    if key not in ground.fitting_lots:
        ground.fitting_lots[key] = _fitting_kinds(ground, place, kinds)
    wanted = ground.fitting_lots[key]
    if wanted is None:
        return None
    missing = list(wanted)
    lots = [[], []]
    for part in summands:
        if part.kind in missing:
            missing.remove(part.kind)
            lots[0].append(part)
        else:
            lots[1].append(part)
    return [summands_together(ground, lot) for lot in lots]


def _fitting_kinds(ground, place, kinds):
    """The kinds of a lot, as few as can be, that fits with the lot of the others; None if there is none."""
    rows = [[]]
    for kind in sorted(set(kinds)):
        often = kinds.count(kind)
        rows = [row + [kind] * many for row in rows for many in range(often + 1)]
    for row in sorted(rows, key=len):
        if row and 2 * len(row) <= len(kinds):
            rest = list(kinds)
            for kind in row:
                rest.remove(kind)
            one, other = put_together(ground.sums, row), put_together(ground.sums, rest)
            triple = (place.kind, one, other) if place.word == "left" else (one, other, place.kind)
            if triple in ground.triples[place.word]:
                return row
    return None


def spread_here(ground, node):
    """Any outcome of a spread of a product at its own factors, None if there is none.

    Long blocks come first: then the sums that are made are seldom factors, in which they would grow.
    """
    there = places(ground, node)
    for place in sorted(there, key=lambda each: each.first - each.last):
        lots = fitting_lots(ground, place, node.parts[place.at].parts)
        if lots is not None:
            return spread_at(ground, node, place, lots)
    return None


def first_spread(ground, node):
    """Any outcome of a spread of a node, at any depth, None if there is none."""
    outcome = spread_here(ground, node)
    if outcome is not None:
        return outcome
    for at, part in enumerate(node.parts):
        inner = first_spread(ground, part)
        if inner is not None:
            return with_part(ground, node, at, inner)
    return None


def led_on(ground, node):
    """A full spread of a node: always the same one."""
    if node not in ground.fulls:
        ground.fulls[node] = _led_on_anew(ground, node)
    return ground.fulls[node]


def _led_on_anew(ground, node):
    there = node
    while there.word != "thing":
        whole = flat(ground, there.word, [led_on(ground, part) for part in there.parts])
        there = spread_here(ground, whole)
        if there is None:
            return whole
    return there
