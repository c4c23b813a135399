"""Books of things with their kinds, and terms of things."""

from kindspreads.errors import InvalidBook, InvalidMap, InvalidTerm, InvalidTerms, InvalidText, InvalidThings
from kindspreads.nodes import Ground, by_text, flat, flat_product, flat_sum, form_text, inner_nodes, node_of
from kindspreads.nodes import plain_term, thing_node, things_within
from kindspreads.plain import is_map_to_words, is_one_of, is_word
from kindspreads.reading import term_read
from kindspreads.rules import mirrored_rule, need_rule


class Book:
    """A rule, and things of its kinds, at least one of each."""

    def __init__(self, rule, things):
        need_rule(rule)
        if not _are_things(rule, things):
            raise InvalidThings(things)
        self._rule = rule
        self._things = {thing: things[thing] for thing in sorted(things)}

    def __eq__(self, other):
        return isinstance(other, Book) and self._rule == other._rule and self._things == other._things

    def rule(self):
        """The rule of the book."""
        return self._rule

    def things(self):
        """The dictionary from the things, ascending, to their kinds."""
        return {thing: self._things[thing] for thing in self._things}


def _are_things(rule, value):
    kinds = rule.kinds().words()
    if not isinstance(value, dict) or not all([is_word(thing) for thing in value]):
        return False
    told = list(value.values())
    if not all([is_one_of(kind, kinds) for kind in told]):
        return False
    return all([kind in told for kind in kinds])


def need_book(value):
    """Raise an error for what is no book."""
    if not isinstance(value, Book):
        raise InvalidBook(value)


def ground_of(book):
    """What the nodes of a book's terms are made by."""
    return Ground(book.rule(), book.things())


def node_in(ground, value):
    """The node of any object that is a term of the ground's things, None of any other one."""
    if form_text(value) is None:
        return None
    if not all([thing in ground.sorts for thing in things_within(value)]):
        return None
    return node_of(ground, value)


def need_node(ground, value):
    """The node of a term; an error for what is no term of the ground's things."""
    node = node_in(ground, value)
    if node is None:
        raise InvalidTerm(value)
    return node


def need_nodes(ground, values):
    """The nodes of a list, not empty, of terms; an error for what is none."""
    if not isinstance(values, list) or not values:
        raise InvalidTerms(values)
    nodes = [node_in(ground, value) for value in values]
    if None in nodes:
        raise InvalidTerms(values)
    return nodes


def term_node(book, term):
    """The node of a term of a book; an error for what is no book, or no term of it."""
    need_book(book)
    return need_node(ground_of(book), term)


def is_term(book, value):
    """Whether any object is a term of the book."""
    need_book(book)
    return node_in(ground_of(book), value) is not None


def text_of(term):
    """The text of a term by its form."""
    text = form_text(term)
    if text is None:
        raise InvalidTerm(term)
    return text


def term_of(text):
    """The term by its form that has a text."""
    term = term_read(text)
    if term is None:
        raise InvalidText(text)
    return term


def parts_of(book, term):
    """The list of the summands, or factors, in their order; a thing has none."""
    return [plain_term(part) for part in term_node(book, term).parts]


def kind_of(book, term):
    """The kind of a term."""
    return term_node(book, term).kind


def sum_of(book, terms):
    """The sum of terms, put together flat."""
    need_book(book)
    ground = ground_of(book)
    return plain_term(flat_sum(ground, need_nodes(ground, terms)))


def product_of(book, terms):
    """The product of terms in their order, put together flat."""
    need_book(book)
    ground = ground_of(book)
    return plain_term(flat_product(ground, need_nodes(ground, terms)))


def inner_terms(book, term):
    """The unlike inner terms, ascending by their texts."""
    return by_text(list(inner_nodes(term_node(book, term)).values()))


def depth(book, term):
    """How deep the parts of a term are nested: 0 for a thing."""
    return _depth_below(term_node(book, term))


def _depth_below(node):
    if not node.parts:
        return 0
    return 1 + max([_depth_below(part) for part in node.parts])


def put_in(book, term, sent):
    """The term with things replaced, at once and wherever they stand, by terms of their kinds."""
    node = term_node(book, term)
    ground = ground_of(book)
    if not _is_putting_in(ground, sent):
        raise InvalidMap(sent)
    return plain_term(_node_sent(ground, node, {thing: node_of(ground, sent[thing]) for thing in sent}))


def _is_putting_in(ground, value):
    if not isinstance(value, dict) or not all([is_one_of(thing, ground.sorts) for thing in value]):
        return False
    for thing, term in value.items():
        node = node_in(ground, term)
        if node is None or node.kind != ground.sorts[thing]:
            return False
    return True


def _node_sent(ground, node, nodes):
    """A node with things replaced by nodes; things that are not told stay."""
    if node.word == "thing":
        return nodes.get(node.text, node)
    return flat(ground, node.word, [_node_sent(ground, part, nodes) for part in node.parts])


def mirrored_book(book):
    """The book of the same things over the mirrored rule."""
    need_book(book)
    return Book(mirrored_rule(book.rule()), book.things())


def mirrored_term(book, term):
    """The term of the mirrored book whose factors, through and through, are turned about."""
    node = term_node(book, term)
    return plain_term(_node_mirrored(ground_of(mirrored_book(book)), node))


def _node_mirrored(ground, node):
    if node.word == "thing":
        return node
    parts = [_node_mirrored(ground, part) for part in node.parts]
    if node.word == "product":
        parts = parts[::-1]
    return flat(ground, node.word, parts)


def with_things(book, sent):
    """The book whose things are sent by a dictionary from just these to unlike words."""
    need_book(book)
    _need_names(book, sent)
    return Book(book.rule(), {sent[thing]: kind for thing, kind in book.things().items()})


def term_sent(book, term, sent):
    """The term with its things sent by a dictionary from just the book's things to unlike words."""
    node = term_node(book, term)
    _need_names(book, sent)
    ground = ground_of(with_things(book, sent))
    return plain_term(_node_sent(ground, node, {thing: thing_node(ground, sent[thing]) for thing in sent}))


def _need_names(book, sent):
    if not is_map_to_words(sent, list(book.things())):
        raise InvalidMap(sent)
