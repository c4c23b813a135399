"""What is asked of any object before it is taken: words, counts, maps."""

LETTERS = "abcdefghijklmnopqrstuvwxyz"

# Numbers are written and read in pieces of so many figures.
MANY_FIGURES = 18
GREAT = 1000000000000000000


def is_word(value):
    """Whether any object is a string of one to eight letters from a to z."""
    if not isinstance(value, str) or len(value) > 8:
        return False
    return value.isascii() and value.isalpha() and value.islower()


def is_count(value):
    """Whether any object is a whole number of at least 0; True and False are none."""
    return isinstance(value, int) and not isinstance(value, bool) and value >= 0


def is_count_below(value, bound):
    """Whether any object is a count below a bound."""
    return is_count(value) and value < bound


def is_one_of(value, words):
    """Whether any object is one of some strings: what is no string cannot always be looked up."""
    return isinstance(value, str) and value in words


def is_row_of(value, words):
    """Whether any object is a list of some strings, each perhaps more than once."""
    if not isinstance(value, list):
        return False
    return all([is_one_of(each, words) for each in value])


def is_map_to_words(value, words):
    """Whether any object is a dictionary from just these strings to unlike words."""
    if not isinstance(value, dict) or len(value) != len(words):
        return False
    if not all([word in value for word in words]):
        return False
    if not all([is_word(value[word]) for word in words]):
        return False
    return len({value[word] for word in words}) == len(words)


def name_at(place):
    """The word at a place of a, b, .., z, aa, ab, .., az, ba, ..: there is always a next one."""
    name = LETTERS[place % 26]
    while place >= 26:
        place = place // 26 - 1
        name = LETTERS[place % 26] + name
    return name


def figures(count):
    """The figures of a count: Python itself refuses to write numbers of very many."""
    told = []
    rest = count
    while rest >= GREAT:
        rest, last = divmod(rest, GREAT)
        told.append(str(last).zfill(MANY_FIGURES))
    told.append(str(rest))
    return "".join(told[::-1])


def number_read(text):
    """The count that some figures tell, None of other texts; noughts ahead are let."""
    if not text.isascii() or not text.isdigit():
        return None
    # Like figures, this goes piece by piece, as Python refuses to read very many at once.
    first = len(text) % MANY_FIGURES
    number = int("0" + text[:first])
    for at in range(first, len(text), MANY_FIGURES):
        number = number * GREAT + int(text[at:at + MANY_FIGURES])
    return number
