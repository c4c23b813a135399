"""Kinds: which kind a sum and which kind a product of two kinds is."""

from kindspreads.errors import InvalidKind, InvalidKinds, InvalidMap, InvalidTable, InvalidTerms
from kindspreads.plain import is_map_to_words, is_one_of, is_row_of
from kindspreads.tables import brackets_are_free, order_is_free, table_of, table_rows


class Kinds:
    """A plus table and a times table of the same kinds."""

    def __init__(self, plus, times):
        sums = plus_rows(plus)
        if sums is None:
            raise InvalidTable(plus)
        products = times_rows(times)
        if products is None or products.names != sums.names:
            raise InvalidTable(times)
        # The package reads these, and changes nothing of them.
        self.sum_table = table_of(sums.names, sums.rows)
        self.product_table = table_of(products.names, products.rows)
        self.kind_words = sums.names
        self.sum_rows = sums.rows
        self.product_rows = products.rows
        # Which triples hold in the tables is told when it is asked, and kept: see triples_holding.
        self.holding_triples = {}

    def __eq__(self, other):
        return (
            isinstance(other, Kinds)
            and self.sum_table == other.sum_table
            and self.product_table == other.product_table
        )

    def plus(self):
        """The plus table, its keys ascending."""
        return {pair: self.sum_table[pair] for pair in self.sum_table}

    def times(self):
        """The times table, its keys ascending."""
        return {pair: self.product_table[pair] for pair in self.product_table}

    def words(self):
        """The ascending list of the kinds."""
        return list(self.kind_words)

    def add(self, first, second):
        """The kind of a sum of two kinds."""
        _need_both(self.kind_words, first, second)
        return self.sum_table[(first, second)]

    def multiply(self, first, second):
        """The kind of a product of two kinds, in this order."""
        _need_both(self.kind_words, first, second)
        return self.product_table[(first, second)]


def _need_both(words, first, second):
    if not is_one_of(first, words):
        raise InvalidKind(first)
    if not is_one_of(second, words):
        raise InvalidKind(second)


def need_kinds(value):
    """Raise an error for what is no Kinds."""
    if not isinstance(value, Kinds):
        raise InvalidKinds(value)


def times_rows(value):
    """The rows of any object that is a times table, None of any other one."""
    rows = table_rows(value)
    if rows is None or not brackets_are_free(rows.rows):
        return None
    return rows


def plus_rows(value):
    """The rows of any object that is a plus table, None of any other one."""
    rows = times_rows(value)
    if rows is None or not order_is_free(rows.rows):
        return None
    return rows


def is_times_table(value):
    """Whether any object is a table in which brackets make no difference."""
    return times_rows(value) is not None


def is_plus_table(value):
    """Whether any object is a times table in which, too, the order makes no difference."""
    return plus_rows(value) is not None


def sum_kind(kinds, row):
    """The kind of a sum of things of these kinds."""
    need_kinds(kinds)
    _need_row(kinds, row)
    return put_together(kinds.sum_table, row)


def product_kind(kinds, row):
    """The kind of a product of things of these kinds, in this order."""
    need_kinds(kinds)
    _need_row(kinds, row)
    return put_together(kinds.product_table, row)


def _need_row(kinds, row):
    if not is_row_of(row, kinds.kind_words) or not row:
        raise InvalidTerms(row)


def put_together(table, row):
    """What a table makes of kinds one after the other; one alone stays as it is."""
    # Most rows are of two.
    if len(row) == 2:
        return table[(row[0], row[1])]
    made = row[0]
    for kind in row[1:]:
        made = table[(made, kind)]
    return made


def opposite(kinds):
    """The Kinds with the same plus table and the times table turned about."""
    need_kinds(kinds)
    times = kinds.product_table
    return Kinds(kinds.sum_table, {(first, second): times[(second, first)] for first, second in times})


def renamed(kinds, sent):
    """The Kinds with its kinds exchanged by a dictionary from just these to unlike words."""
    need_kinds(kinds)
    if not is_map_to_words(sent, kinds.kind_words):
        raise InvalidMap(sent)
    return Kinds(_table_sent(kinds.sum_table, sent), _table_sent(kinds.product_table, sent))


def _table_sent(table, sent):
    return {(sent[first], sent[second]): sent[made] for (first, second), made in table.items()}


def can_be_left(kinds):
    """The ascending list of (a, b, c) with a times (b plus c) = (a times b) plus (a times c)."""
    need_kinds(kinds)
    return list(triples_holding(kinds, "left"))


def can_be_right(kinds):
    """The ascending list of (b, c, a) with (b plus c) times a = (b times a) plus (c times a)."""
    need_kinds(kinds)
    return list(triples_holding(kinds, "right"))


def holds(kinds, word, triple):
    """Whether a tuple of three strings is a triple of a side that holds in the tables."""
    if word in kinds.holding_triples:
        return triple in kinds.holding_triples[word]
    if not all([each in kinds.kind_words for each in triple]):
        return False
    sums, products = kinds.sum_table, kinds.product_table
    first, second, third = triple
    if word == "left":
        return products[(first, sums[(second, third)])] == sums[(products[(first, second)], products[(first, third)])]
    return products[(sums[(first, second)], third)] == sums[(products[(first, third)], products[(second, third)])]


def triples_holding(kinds, word):
    """ALL triples of a side that hold in the tables, ascending: a dictionary that is not to be changed."""
    if word not in kinds.holding_triples:
        if word == "left":
            found = _left_triples(kinds.kind_words, kinds.sum_rows, kinds.product_rows)
        else:
            found = _right_triples(kinds.kind_words, kinds.sum_rows, kinds.product_rows)
        kinds.holding_triples[word] = found
    return kinds.holding_triples[word]


def _left_triples(words, sums, products):
    found = {}
    for first, row in zip(words, products):
        for second, added, made in zip(words, sums, row):
            for third, total, other in zip(words, added, row):
                if row[total] == sums[made][other]:
                    found[(first, second, third)] = True
    return found


def _right_triples(words, sums, products):
    found = {}
    for first, added, row in zip(words, sums, products):
        for second, total, other in zip(words, added, products):
            for third, whole, one, more in zip(words, products[total], row, other):
                if whole == sums[one][more]:
                    found[(first, second, third)] = True
    return found
