"""Kinds: which kind a sum and which kind a product of two kinds is."""

from kindspreads.errors import InvalidKind, InvalidKinds, InvalidMap, InvalidTable, InvalidTerms
from kindspreads.plain import is_map_to_words, is_one_of, is_row_of, is_word


class Kinds:
    """A plus table and a times table of the same kinds."""

    def __init__(self, plus, times):
        if not is_plus_table(plus):
            raise InvalidTable(plus)
        if not is_times_table(times) or table_words(times) != table_words(plus):
            raise InvalidTable(times)
        self._plus = {pair: plus[pair] for pair in sorted(plus)}
        self._times = {pair: times[pair] for pair in sorted(times)}
        self._words = table_words(plus)

    def __eq__(self, other):
        return isinstance(other, Kinds) and self._plus == other._plus and self._times == other._times

    def plus(self):
        """The plus table, its keys ascending."""
        return {pair: self._plus[pair] for pair in self._plus}

    def times(self):
        """The times table, its keys ascending."""
        return {pair: self._times[pair] for pair in self._times}

    def words(self):
        """The ascending list of the kinds."""
        return list(self._words)

    def add(self, first, second):
        """The kind of a sum of two kinds."""
        self._need_both(first, second)
        return self._plus[(first, second)]

    def multiply(self, first, second):
        """The kind of a product of two kinds, in this order."""
        self._need_both(first, second)
        return self._times[(first, second)]

    def _need_both(self, first, second):
        if not is_one_of(first, self._words):
            raise InvalidKind(first)
        if not is_one_of(second, self._words):
            raise InvalidKind(second)


def need_kinds(value):
    """Raise an error for what is no Kinds."""
    if not isinstance(value, Kinds):
        raise InvalidKinds(value)


def table_words(value):
    """The ascending words of a table from ALL tuples of two of them to one of them.

    The list is empty if the object is no such table.
    """
    if not isinstance(value, dict) or not all([_is_pair(key) for key in value]):
        return []
    words = sorted({word for pair in value for word in pair})
    known = {word: True for word in words}
    if len(value) != len(words) ** 2:
        return []
    if not all([is_one_of(made, known) for made in value.values()]):
        return []
    return words


def _is_pair(value):
    return isinstance(value, tuple) and len(value) == 2 and is_word(value[0]) and is_word(value[1])


def is_times_table(value):
    """Whether any object is a table in which brackets make no difference."""
    words = table_words(value)
    if not words:
        return False
    for first in words:
        for second in words:
            both = value[(first, second)]
            for third in words:
                if value[(both, third)] != value[(first, value[(second, third)])]:
                    return False
    return True


def is_plus_table(value):
    """Whether any object is a times table in which, too, the order makes no difference."""
    words = table_words(value)
    for first in words:
        for second in words:
            if value[(first, second)] != value[(second, first)]:
                return False
    return is_times_table(value)


def sum_kind(kinds, row):
    """The kind of a sum of things of these kinds."""
    need_kinds(kinds)
    _need_row(kinds, row)
    return put_together(kinds.plus(), row)


def product_kind(kinds, row):
    """The kind of a product of things of these kinds, in this order."""
    need_kinds(kinds)
    _need_row(kinds, row)
    return put_together(kinds.times(), row)


def _need_row(kinds, row):
    if not is_row_of(row, kinds.words()) or not row:
        raise InvalidTerms(row)


def put_together(table, row):
    """What a table makes of kinds one after the other; one alone stays as it is."""
    made = row[0]
    for kind in row[1:]:
        made = table[(made, kind)]
    return made


def opposite(kinds):
    """The Kinds with the same plus table and the times table turned about."""
    need_kinds(kinds)
    times = kinds.times()
    return Kinds(kinds.plus(), {(first, second): times[(second, first)] for first, second in times})


def renamed(kinds, sent):
    """The Kinds with its kinds exchanged by a dictionary from just these to unlike words."""
    need_kinds(kinds)
    if not is_map_to_words(sent, kinds.words()):
        raise InvalidMap(sent)
    return Kinds(_table_sent(kinds.plus(), sent), _table_sent(kinds.times(), sent))


def _table_sent(table, sent):
    return {(sent[first], sent[second]): sent[made] for (first, second), made in table.items()}


def can_be_left(kinds):
    """The ascending list of (a, b, c) with a times (b plus c) = (a times b) plus (a times c)."""
    need_kinds(kinds)
    plus, times, words = kinds.plus(), kinds.times(), kinds.words()
    return [
        (a, b, c)
        for a in words
        for b in words
        for c in words
        if times[(a, plus[(b, c)])] == plus[(times[(a, b)], times[(a, c)])]
    ]


def can_be_right(kinds):
    """The ascending list of (b, c, a) with (b plus c) times a = (b times a) plus (c times a)."""
    need_kinds(kinds)
    plus, times, words = kinds.plus(), kinds.times(), kinds.words()
    return [
        (b, c, a)
        for b in words
        for c in words
        for a in words
        if times[(plus[(b, c)], a)] == plus[(times[(b, a)], times[(c, a)])]
    ]
