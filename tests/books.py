"""Sample books."""

from kindspreads.rules import Rule, whole_rule
from kindspreads.terms import Book
from tests.helper import PPP, stop_kinds, stop_rule


def stop_book():
    """Things of the kind "p" that spread, from both sides, over such, and "m", which never does."""
    return Book(stop_rule(), dict([(thing, "p") for thing in "abcde"] + [("m", "w")]))


def books_over(things, words="pw"):
    """Books of the same things over rules of both sides, of the left one, of the right one, of none and of all triples."""
    kinds = stop_kinds(words)
    sides = [([PPP], [PPP]), ([PPP], []), ([], [PPP]), ([], [])]
    rules = [Rule(kinds, left, right) for left, right in sides] + [whole_rule(kinds)]
    return [Book(rule, things) for rule in rules]
