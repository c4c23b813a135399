"""[70] to [73]: ends, and [1] to [4] as far as they speak of them."""

import unittest

from kindspreads.ends import all_ends, ends_reached, fewest_ends, gathered, has_one_end, is_end, is_gathered, is_why_no_end
from kindspreads.ends import many_ends, missed_ends, why_no_end
from kindspreads.errors import InvalidBook, InvalidTerm
from kindspreads.fulls import full_spread
from kindspreads.kinds import Kinds
from kindspreads.prices import fewest_times, times_signs
from kindspreads.rules import Rule, whole_rule
from kindspreads.shapes import is_settled
from kindspreads.spreads import gatherings, spreads
from kindspreads.terms import Book, term_of, text_of
from kindspreads.wholes import is_small, many_words
from tests import naive
from tests.books import stop_book
from tests.helper import check_errors, odd_objects, one_kind, table
from tests.test_fulls import books
from tests.test_terms import NO_TERMS

FULL = term_of("a b + a c + d c + d e")
TWO = term_of("a (b + c) + d (c + e)")
EVERYWHERE = Book(whole_rule(one_kind()), {thing: "p" for thing in "abcdefghi"})
LISTS = (gathered, ends_reached, all_ends, missed_ends, fewest_ends)


def texts(terms):
    return [text_of(term) for term in terms]


def gathered_from(classes, book, term):
    """All terms to which gatherings alone lead from a term."""
    found, ahead = {term}, [term]
    while ahead:
        there = ahead.pop()
        for other in classes[term]:
            if other not in found and there in naive.outcomes(book, other):
                found.add(other)
                ahead.append(other)
    return found


class EndsTest(unittest.TestCase):
    def test_example(self):
        pence = table("pw", lambda x, y: "p" if x == y == "p" else "w")
        things = dict([(thing, "p") for thing in "abcde"] + [("m", "w")])
        stop = Book(Rule(Kinds(pence, pence), [("p", "p", "p")], [("p", "p", "p")]), things)
        both = term_of("a (b + c) + d c + d e")
        self.assertEqual([is_end(stop, FULL), texts(all_ends(stop, FULL))], [False, ["(a + d) c + a b + d e", "a (b + c) + d (c + e)"]])
        self.assertEqual([ends_reached(stop, FULL) == all_ends(stop, FULL), fewest_ends(stop, FULL)], [True, [TWO]])
        self.assertEqual([ends_reached(stop, both), texts(missed_ends(stop, both))], [[TWO], ["(a + d) c + a b + d e"]])
        self.assertEqual([many_ends(stop, both), has_one_end(stop, both)], [2, False])
        self.assertEqual([gathered(stop, both), gathered(stop, TWO), why_no_end(stop, TWO)], [[both, TWO], [TWO], None])
        self.assertEqual([is_why_no_end(stop, both, TWO), is_gathered(stop, FULL, [FULL, both, TWO])], [True, True])
        self.assertIs(is_gathered(stop, FULL, [FULL, both]), False)

    def test_all_terms_of_few_things(self):
        for book, names in books():
            classes = naive.classes(book, naive.few_terms(names, 5))
            ends = {term for term in classes if not any(term in naive.outcomes(book, other) for other in classes[term])}
            for term in list(classes)[::6]:
                kin = [other for other in classes[term] if other in ends]
                reached = gathered_from(classes, book, term)
                self.assertIs(is_end(book=book, term=term), term in ends)
                self.assertEqual(ends_reached(book=book, term=term), [end for end in kin if end in reached])
                self.assertEqual(all_ends(book=book, term=term), kin)
                self.assertEqual(many_ends(book=book, term=term), len(kin))
                self.assertEqual(missed_ends(book=book, term=term), [end for end in kin if end not in reached])
                self.assertIs(has_one_end(book=book, term=term), len(kin) == 1)
                fewest = min([times_signs(book, other) for other in classes[term]])
                told = fewest_ends(book=book, term=term)
                self.assertEqual(told, [end for end in kin if times_signs(book, end) == fewest])
                self.assertEqual([bool(told), fewest], [True, fewest_times(book, term)])
                self.check_ways(book, term, kin)

    def check_ways(self, book, term, kin):
        way = gathered(book=book, term=term)
        self.assertIn(way[-1], kin)
        self.assertEqual(way[0], term)
        for one, other in zip(way, way[1:]):
            self.assertIn(one, naive.outcomes(book, other))
        self.assertIs(is_gathered(book=book, term=term, value=way), True)
        self.assertIs(is_gathered(book, term, tuple(way)), False)
        self.assertIs(is_gathered(book, term, way[:-1]), False)
        self.assertIs(is_gathered(book, term, way + way[-1:]), False)
        outcome = why_no_end(book=book, term=term)
        self.assertIs(outcome is None, way == [term])
        for other in gatherings(book, term):
            self.assertIs(is_why_no_end(book=book, term=term, value=other), True)
        if outcome is not None:
            self.assertIn(outcome, gatherings(book, term))
            self.assertIs(is_gathered(book, term, way[1:]), False)
        for other in spreads(book, term) + [term, None]:
            self.assertIs(is_why_no_end(book, term, other), False)

    def test_from_full_spreads_of_settled_rules_all_ends_are_reached(self):
        for book, names in books():
            if is_settled(book.rule()):
                for term in naive.few_terms(names, 5)[::5]:
                    full = full_spread(book, term)
                    self.assertEqual(ends_reached(book, full), all_ends(book, term))
                    self.assertEqual(missed_ends(book, full), [])

    def test_a_thing_alone(self):
        book = stop_book()
        self.assertEqual([is_end(book, "a"), why_no_end(book, "a"), gathered(book, "a")], [True, None, ["a"]])
        self.assertEqual([ends_reached(book, "a"), all_ends(book, "a"), fewest_ends(book, "a")], [["a"], ["a"], ["a"]])
        self.assertEqual([many_ends(book, "a"), missed_ends(book, "a"), has_one_end(book, "a")], [1, [], True])
        self.assertEqual([is_gathered(book, "a", ["a"]), is_why_no_end(book, "a", "a")], [True, False])

    def test_terms_with_one_end_and_with_several(self):
        book = stop_book()
        for term in (term_of("a (b + c)"), term_of("a b + a c")):
            self.assertEqual([texts(all_ends(book, term)), has_one_end(book, term)], [["a (b + c)"], True])
        kept = term_of("m (a b + a c)")
        self.assertEqual([is_end(book, kept), texts(all_ends(book, kept)), has_one_end(book, kept)], [False, ["m a (b + c)"], True])
        self.assertEqual([many_ends(book, FULL), has_one_end(book, FULL)], [2, False])

    def test_ends_that_gatherings_alone_do_not_reach(self):
        # From the one end no gathering leads anywhere, and the other end is missed.
        book = stop_book()
        for end, other in (all_ends(book, FULL), all_ends(book, FULL)[::-1]):
            self.assertEqual([ends_reached(book, end), missed_ends(book, end)], [[end], [other]])

    def test_terms_of_whatever_size_for_the_first_point(self):
        wide = full_spread(EVERYWHERE, term_of("(a + b + c) (d + e + f) (g + h + i)"))
        self.assertEqual([many_words(EVERYWHERE, wide), is_small(EVERYWHERE, wide)], [27, False])
        self.assertIs(is_end(EVERYWHERE, wide), False)
        outcome = why_no_end(EVERYWHERE, wide)
        self.assertIs(is_why_no_end(EVERYWHERE, wide, outcome), True)
        self.assertIs(is_end(EVERYWHERE, term_of("(a + b + c) (d + e + f) (g + h + i)")), True)

    def test_judged_objects(self):
        book, term = stop_book(), term_of("a b + a c")
        self.assertIs(is_why_no_end(book, term, term_of("a (b + c)")), True)
        self.assertIs(is_gathered(book, term, [term, term_of("a (b + c)")]), True)
        for value in odd_objects() + NO_TERMS + [[value] for value in NO_TERMS] + [[], [term], [term_of("a (b + c)")]]:
            self.assertIs(is_why_no_end(book, term, value), False)
            self.assertIs(is_gathered(book, term, value), False)
            self.assertIs(is_gathered(book, term, [term, value]), False)


class WrongArgumentsTest(unittest.TestCase):
    def test_books_and_terms(self):
        head, tail = (InvalidBook, odd_objects()), (InvalidTerm, NO_TERMS)
        for function in LISTS + (is_end, why_no_end, many_ends, has_one_end):
            check_errors(self, function, [stop_book(), "a"], [head, tail])
        for function in (is_why_no_end, is_gathered):
            check_errors(self, function, [stop_book(), "a", None], [head, tail, (None, [None])])

    def test_lists_returned_are_new(self):
        book = stop_book()
        for function in LISTS:
            told = function(book, term_of("a (b + c) + d c + d e"))
            function(book, term_of("a (b + c) + d c + d e")).clear()
            self.assertEqual(function(book, term_of("a (b + c) + d c + d e")), told)


if __name__ == "__main__":
    unittest.main()
