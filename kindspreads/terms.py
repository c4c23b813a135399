"""Books of things with their kinds, and terms of things."""

from kindspreads.errors import InvalidBook, InvalidMap, InvalidTerm, InvalidTerms, InvalidText, InvalidThings
from kindspreads.nodes import Ground, flat, flat_product, flat_sum, form_text, inner_nodes, node_in, node_of
from kindspreads.nodes import terms_by_text
from kindspreads.plain import is_map_to_words, is_one_of, is_word
from kindspreads.reading import term_read
from kindspreads.rules import mirrored_rule, need_rule


# A book forgets what it found out about terms before it would keep more sums and products than this.
MOST_KEPT = 20000


class Book:
    """A rule, and things of its kinds, at least one of each."""

    def __init__(self, rule, things):
        need_rule(rule)
        if not _are_things(rule, things):
            raise InvalidThings(things)
        self._rule = rule
        self._things = {thing: things[thing] for thing in sorted(things)}
        # The nodes of its terms and what was found out about them: see need_ground.
        self.ground = None

    def __eq__(self, other):
        return isinstance(other, Book) and self._rule == other._rule and self._things == other._things

    def rule(self):
        """The rule of the book."""
        return self._rule

    def things(self):
        """The dictionary from the things, ascending, to their kinds."""
        return {thing: self._things[thing] for thing in self._things}


def _are_things(rule, value):
    kinds = rule.kinds().kind_words
    if not isinstance(value, dict) or not all([is_word(thing) for thing in value]):
        return False
    told = list(value.values())
    if not all([is_one_of(kind, kinds) for kind in told]):
        return False
    return all([kind in told for kind in kinds])


def need_book(value):
    """Raise an error for what is no book."""
    if not isinstance(value, Book):
        raise InvalidBook(value)


def need_ground(book):
    """What the nodes of a book's terms are made by; an error for what is no book.

    It is asked for once in a call, ahead of all nodes: nodes of two grounds do not go together.
    """
    need_book(book)
    if book.ground is None or len(book.ground.known) > MOST_KEPT:
        book.ground = Ground(book.rule(), book.things())
    return book.ground


def need_node(ground, value):
    """The node of a term; an error for what is no term of the ground's things."""
    node = node_in(ground, value)
    if node is None:
        raise InvalidTerm(value)
    return node


def need_nodes(ground, values):
    """The nodes of a list, not empty, of terms; an error for what is none."""
    if not isinstance(values, list) or not values:
        raise InvalidTerms(values)
    nodes = [node_in(ground, value) for value in values]
    if None in nodes:
        raise InvalidTerms(values)
    return nodes


def is_term(book, value):
    """Whether any object is a term of the book."""
    return node_in(need_ground(book), value) is not None


def text_of(term):
    """The text of a term by its form."""
    text = form_text(term)
    if text is None:
        raise InvalidTerm(term)
    return text


def term_of(text):
    """The term by its form that has a text."""
    term = term_read(text)
    if term is None:
        raise InvalidText(text)
    return term


def parts_of(book, term):
    """The list of the summands, or factors, in their order; a thing has none."""
    return [part.term() for part in need_node(need_ground(book), term).parts]


def kind_of(book, term):
    """The kind of a term."""
    return need_node(need_ground(book), term).kind


def sum_of(book, terms):
    """The sum of terms, put together flat."""
    ground = need_ground(book)
    return flat_sum(ground, need_nodes(ground, terms)).term()


def product_of(book, terms):
    """The product of terms in their order, put together flat."""
    ground = need_ground(book)
    return flat_product(ground, need_nodes(ground, terms)).term()


def inner_terms(book, term):
    """The unlike inner terms, ascending by their texts."""
    return terms_by_text(list(inner_nodes(need_node(need_ground(book), term)).values()))


def depth(book, term):
    """How deep the parts of a term are nested: 0 for a thing."""
    return _depth_below(need_node(need_ground(book), term))


def _depth_below(node):
    if not node.parts:
        return 0
    return 1 + max([_depth_below(part) for part in node.parts])


def put_in(book, term, sent):
    """The term with things replaced, at once and wherever they stand, by terms of their kinds."""
    ground = need_ground(book)
    node = need_node(ground, term)
    if not _is_putting_in(ground, sent):
        raise InvalidMap(sent)
    return _node_sent(ground, node, {thing: node_of(ground, sent[thing]) for thing in sent}).term()


def _is_putting_in(ground, value):
    if not isinstance(value, dict) or not all([is_one_of(thing, ground.sorts) for thing in value]):
        return False
    for thing, term in value.items():
        node = node_in(ground, term)
        if node is None or node.kind != ground.sorts[thing]:
            return False
    return True


def _node_sent(ground, node, nodes):
    """A node with its things replaced by nodes of a ground; those that are not told stay."""
    if node.word == "thing":
        return nodes.get(node.text, node)
    return flat(ground, node.word, [_node_sent(ground, part, nodes) for part in node.parts])


def mirrored_book(book):
    """The book of the same things over the mirrored rule."""
    need_book(book)
    return Book(mirrored_rule(book.rule()), book.things())


def mirrored_term(book, term):
    """The term of the mirrored book whose factors, through and through, are turned about."""
    ground = need_ground(book)
    return _node_mirrored(ground, need_node(ground, term)).term()


def _node_mirrored(ground, node):
    # The kinds are those of the book and not of the mirrored one, but the term has none.
    if node.word == "thing":
        return node
    parts = [_node_mirrored(ground, part) for part in node.parts]
    if node.word == "product":
        parts = parts[::-1]
    return flat(ground, node.word, parts)


def with_things(book, sent):
    """The book whose things are sent by a dictionary from just these to unlike words."""
    need_book(book)
    _need_names(book, sent)
    return Book(book.rule(), {sent[thing]: kind for thing, kind in book.things().items()})


def term_sent(book, term, sent):
    """The term with its things sent by a dictionary from just the book's things to unlike words."""
    node = need_node(need_ground(book), term)
    _need_names(book, sent)
    ground = need_ground(with_things(book, sent))
    return _node_sent(ground, node, {thing: ground.things[sent[thing]] for thing in sent}).term()


def _need_names(book, sent):
    if not is_map_to_words(sent, list(book.things())):
        raise InvalidMap(sent)
