"""Prices of the signs of terms, and the cheapest ones among the kin of a term."""

from kindspreads.errors import InvalidPrices
from kindspreads.plain import is_count
from kindspreads.terms import need_book, need_ground, need_node
from kindspreads.walks import is_way, kin_nodes, listed_nodes, steps_before, tally, way_back


def times_signs(book, term):
    """How many times signs a term has, those within its parts counted."""
    return signs_of(need_node(need_ground(book), term), "product")


def plus_signs(book, term):
    """How many plus signs a term has, those within its parts counted."""
    return signs_of(need_node(need_ground(book), term), "sum")


def signs_of(node, word):
    """How many times signs, or plus signs, a node has, by the word of what they belong to."""
    # In the text a plus sign stands between two blanks, and a times sign is a blank alone.
    plus = node.text.count("+")
    return plus if word == "sum" else node.text.count(" ") - 2 * plus


def price(book, prices, term):
    """What all signs of a term cost."""
    return _price_of(prices, _priced_nodes(book, prices, term)[1], {})


def _price_of(prices, node, known):
    """The price of a node; a dictionary keeps those of nodes that were asked for."""
    if not node.parts:
        return 0
    if node not in known:
        by_kind = prices[1] if node.word == "sum" else prices[0]
        own = (len(node.parts) - 1) * by_kind[node.kind]
        known[node] = own + sum([_price_of(prices, part, known) for part in node.parts])
    return known[node]


def _prices_of(prices, nodes):
    """The prices of some nodes, in their order."""
    known = {}
    return [_price_of(prices, node, known) for node in nodes]


def _priced_nodes(book, prices, term):
    """The ground of a book and the node of a term; errors for what is no book, no prices and no term."""
    need_book(book)
    if not _are_prices(book.rule().kinds().kind_words, prices):
        raise InvalidPrices(prices)
    ground = need_ground(book)
    return ground, need_node(ground, term)


def _are_prices(words, value):
    if not isinstance(value, tuple) or len(value) != 2:
        return False
    return all([_is_price_list(words, each) for each in value])


def _is_price_list(words, value):
    if not isinstance(value, dict) or len(value) != len(words):
        return False
    return all([is_count(value.get(word)) for word in words])


def least_price(book, prices, term):
    """The least price that a kin term has."""
    ground, node = _priced_nodes(book, prices, term)
    return _least(ground, prices, node)


def _least(ground, prices, node):
    return min(_prices_of(prices, kin_nodes(ground, node)))


def cheapest(book, prices, term):
    """Any kin term of the least price."""
    return way_to_cheapest(book, prices, term)[-1]


def is_cheapest(book, prices, term, value):
    """Whether any object is a kin term of the least price."""
    ground, node = _priced_nodes(book, prices, term)
    nodes = listed_nodes(ground, [value])
    if nodes is None or nodes[0] not in kin_nodes(ground, node):
        return False
    return _price_of(prices, nodes[0], {}) == _least(ground, prices, node)


def many_by_price(book, prices, term):
    """The dictionary from the prices of kin terms, ascending, to how many of them cost so much."""
    ground, node = _priced_nodes(book, prices, term)
    return tally(_prices_of(prices, kin_nodes(ground, node)))


def way_to_cheapest(book, prices, term):
    """Any chain from a term to a kin term of the least price."""
    ground, node = _priced_nodes(book, prices, term)
    # The walk begins with the term itself: it stays where nothing is cheaper.
    before = steps_before(ground, node)
    nodes = list(before)
    told = _prices_of(prices, nodes)
    return [each.term() for each in way_back(before, nodes[told.index(min(told))])]


def is_way_to_cheapest(book, prices, term, value):
    """Whether any object is a chain from a term to a kin term of the least price, of whatever length."""
    ground, node = _priced_nodes(book, prices, term)
    nodes = listed_nodes(ground, value)
    if not nodes or nodes[0] != node or not is_way(ground, nodes):
        return False
    return _price_of(prices, nodes[-1], {}) == _least(ground, prices, node)


def fewest_times(book, term):
    """The least number of times signs that a kin term has."""
    return min([signs_of(kin, "product") for kin in _kin_of(book, term)])


def _kin_of(book, term):
    ground = need_ground(book)
    return kin_nodes(ground, need_node(ground, term))


def fewest_signed(book, term):
    """Any kin term with the fewest times signs."""
    kin = _kin_of(book, term)
    return min(kin, key=lambda node: signs_of(node, "product")).term()


def is_fewest_signed(book, term, value):
    """Whether any object is a kin term with the fewest times signs."""
    kin = _kin_of(book, term)
    fewest = min([signs_of(node, "product") for node in kin])
    return value in [node.term() for node in kin if signs_of(node, "product") == fewest]


def many_by_signs(book, term):
    """The dictionary from the numbers of times signs of kin terms, ascending, to how many of them have so many."""
    return tally([signs_of(kin, "product") for kin in _kin_of(book, term)])
