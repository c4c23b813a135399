"""Tables from ALL tuples of two words to one of them, as rows of numbers, which are looked through fast."""

from kindspreads.plain import is_word

# With no more words than this it is not worth while to look for those that make all others.
FEW = 8


class Rows:
    """The words of a table, ascending, and for each word the row of the places of what it makes with each."""

    def __init__(self, names, rows):
        self.names = names
        self.rows = rows


def table_rows(value):
    """The rows of any object that is a table from ALL tuples of two of some words to these, None of any other one."""
    if not isinstance(value, dict) or not value:
        return None
    places = {}
    for key in value:
        if not isinstance(key, tuple) or len(key) != 2:
            return None
        places[key[0]] = 0
    # With as many keys as there are tuples of two first words, and ALL of these among them, there are no others.
    if len(value) != len(places) ** 2 or not all([is_word(word) for word in places]):
        return None
    if not all([isinstance(made, str) for made in value.values()]):
        return None
    words = sorted(places)
    for place, word in enumerate(words):
        places[word] = place
    rows = [[places.get(value.get((first, second))) for second in words] for first in words]
    if any([None in row for row in rows]):
        return None
    return Rows(words, rows)


def brackets_are_free(rows):
    """Whether three put together make one however they are bracketed."""
    for middle in _middles(rows):
        behind = rows[middle]
        for row in rows:
            if rows[row[middle]] != [row[place] for place in behind]:
                return False
    return True


def _middles(rows):
    """The places that have to be tried in the middle of three.

    Where x (b y) is (x b) y for ALL x and y, b may be called a good middle; what two good ones make is one, too.
    So it is enough to try some that make all others.
    """
    if len(rows) <= FEW:
        return list(range(len(rows)))
    made = [False for _ in rows]
    found = []
    for place in range(len(rows)):
        if not made[place]:
            found.append(place)
            _add_made(rows, made, place)
    return found


def _add_made(rows, made, first):
    """Mark a place, and all that the marked ones make of one another."""
    made[first] = True
    ahead = [first]
    while ahead:
        there = ahead.pop()
        others = [other for other, marked in enumerate(made) if marked]
        for place in [rows[there][other] for other in others] + [rows[other][there] for other in others]:
            if not made[place]:
                made[place] = True
                ahead.append(place)


def order_is_free(rows):
    """Whether two make the same in either order."""
    return all([row == [other[place] for other in rows] for place, row in enumerate(rows)])


def table_of(words, rows):
    """The table of words whose rows of places these are, its keys ascending."""
    return {
        (first, second): words[made]
        for first, row in zip(words, rows)
        for second, made in zip(words, row)
    }
