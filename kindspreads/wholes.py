"""Words of terms: rows of things, as if a term were spread wholly, whatever the rule."""

from kindspreads.nodes import factors_together, flat_sum
from kindspreads.terms import need_ground, need_node

MOST_WORDS = 6
MOST_WORD_THINGS = 12


def words_of(book, term):
    """The ascending list of the words of a term, each as often as it comes."""
    return node_words(need_node(need_ground(book), term))


def node_words(node):
    """The ascending list of the words of a node, each as often as it comes."""
    return sorted(_words_within(node))


def _words_within(node):
    if node.word == "thing":
        return [(node.text,)]
    if node.word == "sum":
        return [word for part in node.parts for word in _words_within(part)]
    rows = [()]
    for part in node.parts:
        words = _words_within(part)
        rows = [row + word for row in rows for word in words]
    return rows


def many_words(book, term):
    """How many words a term has."""
    return words_and_things(need_node(need_ground(book), term))[0]


def word_things(book, term):
    """How many things the words of a term have together, each as often as it stands."""
    return words_and_things(need_node(need_ground(book), term))[1]


def words_and_things(node):
    """How many words a node has and how many things these have, without going through them."""
    if node.measure is None:
        node.measure = _measured(node)
    return node.measure


def _measured(node):
    if node.word == "thing":
        return 1, 1
    told = [words_and_things(part) for part in node.parts]
    words, things = told[0]
    for more_words, more_things in told[1:]:
        if node.word == "sum":
            words, things = words + more_words, things + more_things
        else:
            words, things = words * more_words, things * more_words + words * more_things
    return words, things


def have_like_words(book, one, other):
    """Whether two terms have the same words, each as often."""
    return parting_word(book, one, other) is None


def parting_word(book, one, other):
    """The least word that comes unlike often in two terms, None if there is none."""
    ground = need_ground(book)
    some = _tally(_words_within(need_node(ground, one)))
    others = _tally(_words_within(need_node(ground, other)))
    unlike = [word for word in some if some[word] != others.get(word, 0)]
    unlike = unlike + [word for word in others if word not in some]
    return min(unlike, default=None)


def _tally(words):
    often = {}
    for word in words:
        often[word] = often.get(word, 0) + 1
    return often


def whole_of(book, term):
    """The sum of the products of the words of a term: the term spread wholly."""
    ground = need_ground(book)
    return _whole_node(ground, need_node(ground, term)).term()


def is_whole(book, term):
    """Whether a term is spread wholly."""
    ground = need_ground(book)
    node = need_node(ground, term)
    return _whole_node(ground, node) == node


def _whole_node(ground, node):
    rows = [[ground.things[thing] for thing in word] for word in _words_within(node)]
    return flat_sum(ground, [factors_together(ground, row) for row in rows])


def is_small(book, term):
    """Whether a term has at most six words with twelve things together."""
    return is_small_node(need_node(need_ground(book), term))


def is_small_node(node):
    """Whether a node has at most six words with twelve things together."""
    words, things = words_and_things(node)
    return words <= MOST_WORDS and things <= MOST_WORD_THINGS
