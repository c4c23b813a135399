"""Which rows of kinds could keep a rule from being settled, told by kinds alone.

Two spreads of one term meet if there are others of it between them, each of which meets the next one: that is
enough, as spreads come to an end. Spreads that do not touch one another meet, and those of a row that meet in
rows of shapes with fewer things. Where this tells that all spreads of a row meet, nothing is left to try. What
is left are the doubtful rows: tuples of a shape and a list of kinds. If the single spreads of each doubtful row
lead to one full spread, the rule is settled.

In the comments and names below, things are x, y, z ahead of, between and behind sums; (a + b), (c + d) are sums.
"""


class Blocks:
    """Which two lots spread with a block of a kind that stands ahead of them, or behind them."""

    def __init__(self, words, sums, products, ahead, behind):
        # No factor at all is told as the kind "": a product with it is the other factor, and it is no block.
        self.words = words
        self.sums = sums
        self.products = products
        self.ahead = ahead
        self.behind = behind
        self.pairs_ahead = {kind: _rising(ahead[kind]) for kind in ahead}
        self.pairs_behind = {kind: _rising(behind[kind]) for kind in behind}


def _rising(pairs):
    return [(one, other) for one, other in pairs if one <= other]


def _blocks_of(rule):
    """The blocks of a rule."""
    words = rule.kinds().kind_words
    products = {pair: made for pair, made in rule.kinds().product_table.items()}
    for word in words + [""]:
        products[("", word)] = word
        products[(word, "")] = word
    ahead = {word: {} for word in words + [""]}
    behind = {word: {} for word in words + [""]}
    for block, one, other in rule.triples["left"]:
        ahead[block][(one, other)] = True
    for one, other, block in rule.triples["right"]:
        behind[block][(one, other)] = True
    return Blocks(words, rule.kinds().sum_table, products, ahead, behind)


def _mirrored_blocks(blocks):
    """The blocks with times turned about."""
    products = {(second, first): made for (first, second), made in blocks.products.items()}
    return Blocks(blocks.words, blocks.sums, products, blocks.behind, blocks.ahead)


def _cuts_of_three(sums, a, b, c):
    """The three cuts of three summands: the kinds of the lots, and the kinds that stay together."""
    return [((a, sums[(b, c)]), (b, c)), ((b, sums[(a, c)]), (a, c)), ((c, sums[(a, b)]), (a, b))]


def _cuts_into_twos(sums, a, b, c, d):
    """The three cuts of four summands into two lots of two: the kinds of the lots, and the kinds in each of them."""
    return [
        ((sums[(a, b)], sums[(c, d)]), ((a, b), (c, d))),
        ((sums[(a, c)], sums[(b, d)]), ((a, c), (b, d))),
        ((sums[(a, d)], sums[(b, c)]), ((a, d), (b, c))),
    ]


def _threes(words):
    """All rows of three kinds, ascending."""
    return [(a, b, c) for a in words for b in words if a <= b for c in words if b <= c]


def _fours(words):
    """All rows of four kinds, ascending."""
    return [(a, b, c, d) for a, b, c in _threes(words) for d in words if c <= d]


def doubtful_rows(rule):
    """The list of the doubtful rows of a rule: tuples of a shape and the kinds of its things."""
    here = _blocks_of(rule)
    there = _mirrored_blocks(here)
    found = _rows_of_both_sides(here) + _rows_of_crossed_blocks(here) + _rows_of_sums_as_blocks(here)
    found += _rows_of_one_side(here)
    return found + [(shape[::-1], row[::-1]) for shape, row in _rows_of_one_side(there)]


def _rows_of_one_side(blocks):
    """Doubtful rows in which all blocks stand ahead of the sums that they spread with."""
    found = _rows_of_one_block(blocks) + _rows_of_longer_blocks(blocks)
    return found + _rows_of_blocks_with_a_sum(blocks) + _rows_of_part_of_a_block(blocks)


def _rows_of_one_block(blocks):
    """Of x (a + b + c) and x (a + b + c + d): unlike cuts, the block being the same."""
    found = []
    for x in blocks.words:
        lots = blocks.ahead[x]
        if lots:
            for row in _threes(blocks.words):
                told = [kept for cut, kept in _cuts_of_three(blocks.sums, *row) if cut in lots]
                # Two cuts meet just if what each of them leaves together is cut in the end.
                if len(told) > 1 and not all([kept in lots for kept in told]):
                    found.append(((1, 3), (x, *row)))
            for row in _fours(blocks.words):
                told = [kept for cut, kept in _cuts_into_twos(blocks.sums, *row) if cut in lots]
                if len(told) > 1 and not all([one in lots and other in lots for one, other in told]):
                    found.append(((1, 4), (x, *row)))
    return found


def _rows_of_longer_blocks(blocks):
    """Of x y (a + b), x y (a + b + c) and x y (a + b + c + d): with y alone and with x y."""
    found = []
    products = blocks.products
    for x in blocks.words:
        for y in blocks.words:
            longer = products[(x, y)]
            for a, b in blocks.pairs_ahead[y]:
                if (a, b) in blocks.ahead[longer] and (products[(y, a)], products[(y, b)]) not in blocks.ahead[x]:
                    found.append(((1, 1, 2), (x, y, a, b)))
            if y != longer:
                for row in _rows_apart(blocks, blocks.ahead[y], blocks.ahead[longer]):
                    found.append(((1, 1, len(row)), (x, y, *row)))
    return found


def _rows_of_both_sides(blocks):
    """Of x (a + b) z, x (a + b + c) z and x (a + b + c + d) z: with x and with z."""
    found = []
    products = blocks.products
    for x in blocks.words:
        for z in blocks.words:
            for a, b in blocks.pairs_ahead[x]:
                if (a, b) in blocks.behind[z]:
                    ahead = (products[(x, a)], products[(x, b)]) in blocks.behind[z]
                    behind = (products[(a, z)], products[(b, z)]) in blocks.ahead[x]
                    if not ahead or not behind:
                        found.append(((1, 2, 1), (x, a, b, z)))
            for row in _rows_apart(blocks, blocks.ahead[x], blocks.behind[z]):
                found.append(((1, len(row), 1), (x, *row, z)))
    return found


def _rows_apart(blocks, lots, others):
    """The rows of three or four summands of which some cuts fit on one side, some on another, and none on both."""
    found = []
    if not lots or not others:
        return found
    for row in _threes(blocks.words):
        cuts = [cut for cut, _ in _cuts_of_three(blocks.sums, *row)]
        if _are_apart(cuts, lots, others):
            found.append(row)
    for row in _fours(blocks.words):
        single = [(row[at], _sum_without(blocks.sums, row, at)) for at in range(4)]
        # With a cut that takes off a single summand the row is as one of three.
        if not any([cut in lots or cut in others for cut in single]):
            cuts = [cut for cut, _ in _cuts_into_twos(blocks.sums, *row)]
            if _are_apart(cuts, lots, others):
                found.append(row)
    return found


def _are_apart(cuts, lots, others):
    some = [cut in lots for cut in cuts]
    more = [cut in others for cut in cuts]
    return any(some) and any(more) and not any([one and other for one, other in zip(some, more)])


def _sum_without(sums, row, at):
    rest = row[:at] + row[at + 1:]
    return sums[(sums[(rest[0], rest[1])], rest[2])]


def _row_of_sums(x, one, y, other, z):
    """The shape and the kinds of two sums with factors ahead, between and behind, of which "" are none."""
    ahead, between, behind = [tuple([kind for kind in each if kind]) for each in (x, y, z)]
    shape = [1 for _ in ahead] + [2] + [1 for _ in between] + [2] + [1 for _ in behind]
    return tuple(shape), ahead + one + between + other + behind


def _rows_of_blocks_with_a_sum(blocks):
    """Of x (a + b) y (c + d), y perhaps missing: (a + b) with x, and (c + d) with (a + b) y."""
    found = []
    sums, products, ahead, behind = blocks.sums, blocks.products, blocks.ahead, blocks.behind
    for x in blocks.words:
        for a, b in blocks.pairs_ahead[x]:
            for y in blocks.words + [""]:
                block = products[(sums[(a, b)], y)]
                if (a, b) not in behind[y]:
                    for c, d in blocks.pairs_ahead[block]:
                        between = (c, d) in ahead[products[(x, block)]] or (c, d) in ahead[y]
                        if not between and (a, b) not in behind[products[(y, sums[(c, d)])]]:
                            found.append(_row_of_sums((x,), (a, b), (y,), (c, d), ()))
    return found


def _rows_of_part_of_a_block(blocks):
    """Of x y (a + b) z (c + d), z perhaps missing: (a + b) with x y, and (c + d) with y (a + b) z."""
    found = []
    sums, products, ahead, behind = blocks.sums, blocks.products, blocks.ahead, blocks.behind
    for x in blocks.words:
        for y in blocks.words:
            for a, b in blocks.pairs_ahead[products[(x, y)]]:
                for z in blocks.words + [""]:
                    inner = products[(sums[(a, b)], z)]
                    block = products[(y, inner)]
                    if (a, b) not in ahead[y] and (a, b) not in behind[z]:
                        for c, d in blocks.pairs_ahead[block]:
                            lots = (c, d)
                            between = lots in ahead[products[(x, block)]] or lots in ahead[inner] or lots in ahead[z]
                            if not between and (a, b) not in behind[products[(z, sums[lots])]]:
                                found.append(_row_of_sums((x, y), (a, b), (z,), lots, ()))
    return found


def _rows_of_crossed_blocks(blocks):
    """Of (a + b) x y z (c + d), x and z perhaps missing: (a + b) with x y, and (c + d) with y z."""
    found = []
    sums, products, ahead, behind = blocks.sums, blocks.products, blocks.ahead, blocks.behind
    for x in blocks.words + [""]:
        for y in blocks.words:
            for z in blocks.words + [""]:
                whole = products[(x, products[(y, z)])]
                for a, b in blocks.pairs_behind[products[(x, y)]]:
                    inner = (a, b) in behind[x] or (z != "" and (a, b) in behind[whole])
                    for c, d in blocks.pairs_ahead[products[(y, z)]]:
                        between = inner or (c, d) in ahead[z] or (x != "" and (c, d) in ahead[whole])
                        longer = (a, b) in behind[products[(whole, sums[(c, d)])]]
                        if not between and not longer and (c, d) not in ahead[products[(sums[(a, b)], whole)]]:
                            found.append(_row_of_sums((), (a, b), (x, y, z), (c, d), ()))
    return found


def _rows_of_sums_as_blocks(blocks):
    """Of x (a + b) y (c + d) z, each perhaps missing: (a + b) with y (c + d) z, and (c + d) with x (a + b) y."""
    found = []
    sums, products, ahead, behind = blocks.sums, blocks.products, blocks.ahead, blocks.behind
    factors = blocks.words + [""]
    for a, b in sorted({pair for pairs in blocks.pairs_behind.values() for pair in pairs}):
        for x, y in [(x, y) for x in factors for y in factors if (a, b) not in ahead[x] and (a, b) not in behind[y]]:
            inner = products[(sums[(a, b)], y)]
            for c, d in blocks.pairs_ahead[products[(x, inner)]]:
                if (c, d) not in ahead[y] and (x == "" or (c, d) not in ahead[inner]):
                    other = products[(y, sums[(c, d)])]
                    for z in factors:
                        between = (c, d) in behind[z] or (z != "" and (a, b) in behind[other])
                        if (a, b) in behind[products[(other, z)]] and not between:
                            if x + z != "" or not _do_all_spread(blocks, (a, b), y, (c, d)):
                                found.append(_row_of_sums((x,), (a, b), (y,), (c, d), (z,)))
    return found


def _do_all_spread(blocks, one, y, other):
    """Whether (a + b) y (c + d), each of both sums being spread, is spread on to the end."""
    products = blocks.products
    return all(
        [one in blocks.behind[products[(y, kind)]] for kind in other]
        + [other in blocks.ahead[products[(kind, y)]] for kind in one]
    )
