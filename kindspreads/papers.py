"""Rules, books, chains and triples as texts, and back from them."""

from kindspreads.errors import InvalidTerms, InvalidText, InvalidTriples, SpreadError
from kindspreads.kinds import Kinds
from kindspreads.nodes import form_text
from kindspreads.plain import is_word
from kindspreads.reading import term_read
from kindspreads.rules import Rule, need_rule
from kindspreads.terms import Book, need_book

RULE_HEADS = ("plus", "times", "left", "right")
BOOK_HEADS = ("plus", "times", "left", "right", "things")


def rule_text(rule):
    """The text of a rule: a line for each entry of its tables and for each triple, behind heads."""
    need_rule(rule)
    return "\n".join(_rule_lines(rule))


def _rule_lines(rule):
    kinds = rule.kinds()
    lines = ["plus"] + _table_lines(kinds.sum_table) + ["times"] + _table_lines(kinds.product_table)
    return lines + ["left"] + _word_lines(rule.left()) + ["right"] + _word_lines(rule.right())


def _table_lines(table):
    return [f"{first} {second} = {made}" for (first, second), made in table.items()]


def _word_lines(rows):
    return [" ".join(row) for row in rows]


def read_rule(text):
    """The rule that has a text."""
    rule = _rule_of_rows(_rows_behind(text, RULE_HEADS))
    if rule is None or rule_text(rule) != text:
        raise InvalidText(text)
    return rule


def _rows_behind(text, heads):
    """The rows of words behind each line that is a head alone, None unless these are the heads, in their order."""
    if not isinstance(text, str):
        return None
    rows = [line.split(" ") for line in text.split("\n")]
    alone = [at for at, row in enumerate(rows) if len(row) == 1]
    if [rows[at][0] for at in alone] != list(heads) or alone[0] != 0:
        return None
    return [rows[at + 1:end] for at, end in zip(alone, alone[1:] + [len(rows)])]


def _rule_of_rows(rows):
    """The rule of rows of words, None if there is none; the reading lets pass more than texts of rules."""
    if rows is None or not all([len(row) == 4 for row in rows[0] + rows[1]]):
        return None
    plus, times = [{(row[0], row[1]): row[3] for row in table} for table in rows[:2]]
    left, right = [[tuple(row) for row in triples] for triples in rows[2:4]]
    try:
        return Rule(Kinds(plus, times), left, right)
    except SpreadError:
        return None


def book_text(book):
    """The text of a book: that of its rule, and a line for each thing and its kind."""
    need_book(book)
    return "\n".join(_rule_lines(book.rule()) + ["things"] + _word_lines(list(book.things().items())))


def read_book(text):
    """The book that has a text."""
    book = _book_of_rows(_rows_behind(text, BOOK_HEADS))
    if book is None or book_text(book) != text:
        raise InvalidText(text)
    return book


def _book_of_rows(rows):
    """The book of rows of words, None if there is none."""
    rule = _rule_of_rows(rows)
    if rule is None or not all([len(row) == 2 for row in rows[4]]):
        return None
    try:
        return Book(rule, {row[0]: row[1] for row in rows[4]})
    except SpreadError:
        return None


def chain_text(terms):
    """The text of a list of terms by their form: a line for each of them."""
    texts = [form_text(term) for term in terms] if isinstance(terms, list) else [None]
    if None in texts:
        raise InvalidTerms(terms)
    return "\n".join(texts)


def read_chain(text):
    """The list of terms that has a text."""
    terms = [term_read(line) for line in _lines_of(text)]
    if None in terms:
        raise InvalidText(text)
    return terms


def _lines_of(text):
    """The lines of a text, none of the empty one; an error for what is no text."""
    if not isinstance(text, str):
        raise InvalidText(text)
    return text.split("\n") if text else []


def triples_text(triples):
    """The text of a list of triples: a line for each of them."""
    if not isinstance(triples, list) or not all([_is_triple(each) for each in triples]):
        raise InvalidTriples(triples)
    return "\n".join(_word_lines(triples))


def _is_triple(value):
    return isinstance(value, tuple) and len(value) == 3 and all([is_word(word) for word in value])


def read_triples(text):
    """The list of triples that has a text."""
    triples = [tuple(line.split(" ")) for line in _lines_of(text)]
    if not all([_is_triple(each) for each in triples]):
        raise InvalidText(text)
    return triples
