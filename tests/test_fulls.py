"""[40] to [44]: full spreads, and [1] to [4] as far as they speak of them."""

import unittest

from kindspreads.errors import InvalidBook, InvalidTerm, Unsettled
from kindspreads.fulls import copied_things, fewest_spreads, full_spread, full_spreads, is_full, is_shortest_spreading
from kindspreads.fulls import is_spreading, kept_sums, most_spreads, shortest_spreading, spreading, summands_kept
from kindspreads.kinds import Kinds
from kindspreads.rules import Rule, whole_rule
from kindspreads.shapes import is_settled, unsettled, shape_term
from kindspreads.spreads import many_things, spreads
from kindspreads.terms import Book, sum_of, term_of, text_of
from kindspreads.wholes import many_words, whole_of
from tests import naive
from tests.books import books_over, stop_book
from tests.helper import PPP, check_errors, odd_objects, one_kind, stop_kinds, table, three_kinds
from tests.test_shapes import nought_rule, parting_rule
from tests.test_terms import NO_TERMS

EVERYWHERE = Book(whole_rule(one_kind()), {thing: "p" for thing in "abcdefghi"})
FROM_THE_LEFT = Book(Rule(one_kind(), [PPP], []), {thing: "p" for thing in "abcdefghi"})
SETTLED_ONLY = (full_spread, copied_things, kept_sums, summands_kept)
FOR_ALL = (is_full, full_spreads, spreading, fewest_spreads, most_spreads, shortest_spreading)


def loose_book():
    """A book of a rule that is not settled."""
    return Book(parting_rule("left", ("a", "b", "b")), {"x": "a", "y": "b", "v": "b"})


def books():
    """Pairs of a book and few things of it, rules that are settled and rules that are not."""
    told = [(book, "am") for book in books_over({"a": "p", "m": "w"})]
    told += [(loose_book(), "xy"), (Book(nought_rule(), {"n": "n", "o": "o", "t": "t"}), "ot")]
    return told + [(Book(Rule(stop_kinds(), [("p", "p", "w"), ("p", "w", "p")], [PPP]), {"a": "p", "m": "w"}), "am")]


class FullSpreadsTest(unittest.TestCase):
    def test_example(self):
        book = Book(Rule(stop_kinds(), [PPP], [PPP]), {"a": "p", "b": "p", "c": "p", "d": "p", "m": "w"})
        two, row, kept = term_of("(a + b) (c + d)"), term_of("a b (c + d)"), term_of("m a (b + c)")
        self.assertEqual([full_spread(book, two), copied_things(book, two)], [term_of("a c + a d + b c + b d"), 4])
        self.assertEqual([fewest_spreads(book, two), most_spreads(book, two)], [3, 3])
        self.assertEqual([fewest_spreads(book, row), most_spreads(book, row)], [1, 2])
        self.assertEqual([full_spread(book, kept), kept_sums(book, kept)], [term_of("m (a b + a c)"), 1])
        self.assertEqual([summands_kept(book, kept), summands_kept(book, two)], [1, 4])
        self.assertEqual(full_spreads(book, term_of("a (b + m)")), [term_of("a (b + m)")])
        way = [row, term_of("a (b c + b d)"), term_of("a b c + a b d")]
        self.assertEqual([is_spreading(book, row, way), is_spreading(book, row, way[:2])], [True, False])

    def test_all_terms_of_few_things(self):
        for book, names in books():
            settled = is_settled(book.rule())
            for term in naive.few_terms(names, 5):
                fulls = naive.fulls(book, term)
                self.assertEqual(full_spreads(book=book, term=term), fulls)
                self.assertIs(is_full(book=book, term=term), fulls == [term])
                self.check_full(book, term, fulls[0] if settled else None)

    def check_full(self, book, term, full):
        if full is None:
            for function in SETTLED_ONLY:
                with self.assertRaises(Unsettled) as caught:
                    function(book, term)
                self.assertIs(caught.exception.value, book)
            return
        self.assertEqual(full_spread(book=book, term=term), full)
        self.assertEqual(copied_things(book=book, term=term), many_things(book, full) - many_things(book, term))
        self.assertEqual(kept_sums(book=book, term=term), naive.factor_sums(full))
        self.assertEqual(summands_kept(book=book, term=term), len(full) - 1 if naive.is_sum(full) else 1)

    def test_terms_that_have_unlike_full_spreads(self):
        for rule in (nought_rule(), parting_rule("left", ("a", "b", "b")), parting_rule("right", ("b", "b", "a"))):
            number, row, one, other = unsettled(rule)
            book, term = shape_term(rule, number, row)
            found = full_spreads(book, term)
            self.assertEqual(found, naive.fulls(book, term))
            self.assertTrue(one in found and other in found and len(found) > 1)

    def test_sums_kept_at_several_depths(self):
        told = [
            ("m (a (b + c) + m (a + b) (c + d))", "m (a b + a c + m (a c + a d + b c + b d))", 2),
            ("m (a + b (m + m a (c + d)))", "m (a + b (m + m (a c + a d)))", 3),
            ("a (b + m) + a (b + m)", "a (b + m) + a (b + m)", 2),
            ("a", "a", 0),
        ]
        for text, full, sums in told:
            self.assertEqual(text_of(full_spread(stop_book(), term_of(text))), full)
            self.assertEqual(kept_sums(stop_book(), term_of(text)), sums)

    def test_the_full_spread_of_a_sum_is_that_of_its_summands(self):
        book = stop_book()
        row = [term_of(text) for text in ("a (b + c)", "(a + b) c m", "m (a + a)", "d")]
        fulls = [full_spread(book, term) for term in row]
        self.assertEqual(full_spread(book, sum_of(book, row)), sum_of(book, fulls))

    def test_great_full_spreads(self):
        told = [
            ("(a + b + c) (d + e + f) (g + h + i)", 27), ("(a + b) (c + d) (e + f) (g + h) i", 16),
            ("a (b + c) (d + e) (f + g) (h + i)", 16), ("(a + b + c + d) (e + f + g + h + i)", 20),
            ("a (b + c + d + e + f + g + h + i)", 8), ("(a + b + c) (d + e + f) (g + h) i", 18),
            ("a (b + c (d + e (f + g (h + i))))", 5), ("(((a + b) c + d) e + f) (g + h) i", 8),
        ]
        for text, many in told:
            term = term_of(text)
            full = full_spread(EVERYWHERE, term)
            self.assertEqual([full, summands_kept(EVERYWHERE, term)], [whole_of(EVERYWHERE, term), many])
            for book in (EVERYWHERE, FROM_THE_LEFT):
                way = spreading(book, term)
                self.assertIs(is_spreading(book, term, way), True)
                self.assertEqual(way[-1], full_spread(book, term))
                self.assertIs(is_full(book, way[-1]), True)
                self.assertEqual(many_words(book, way[-1]), many)

    def test_a_factor_of_very_many_summands_is_spread_in_fair_time(self):
        kinds = three_kinds()
        rule = Rule(kinds, [triple for triple in whole_rule(kinds).left() if triple[0] != "t"], [])
        book = Book(rule, {thing: "o" for thing in "abcdefgh"} | {"n": "n", "t": "t"})
        term = term_of("t (" + " + ".join(sorted(x + " " + y for x in "abcde" for y in "abcde")) + ")")
        self.assertIs(is_full(book, term), True)
        if is_settled(rule):
            self.assertEqual(full_spread(book, term), term)

    def test_lots_that_must_be_taken_together(self):
        # A lot of one summand fits with no lot of the three others, but two lots of two fit.
        odd = Kinds(table("ab", lambda x, y: "a" if x == y else "b"), table("ab", lambda x, y: "a"))
        book = Book(Rule(odd, [("b", "a", "a")], []), {"x": "a", "y": "b", "z": "b", "u": "b", "v": "b"})
        term = term_of("y (y + y + y + y)")
        self.assertEqual(full_spreads(book, term), [term_of("y (y + y) + y (y + y)")])
        term = term_of("y (u + v + y + z)")
        self.assertEqual(full_spreads(book, term), naive.fulls(book, term))
        self.assertIn(spreading(book, term)[-1], naive.fulls(book, term))
        self.assertIs(is_full(book, term), False)


class SpreadingTest(unittest.TestCase):
    def test_ways_of_all_terms_of_few_things(self):
        for book, names in books():
            for term in naive.few_terms(names, 5)[::3]:
                lengths = naive.way_lengths(book, term)
                self.assertEqual(fewest_spreads(book=book, term=term), lengths[0])
                self.assertEqual(most_spreads(book=book, term=term), lengths[-1])
                way = spreading(book=book, term=term)
                self.check_way(book, term, way)
                self.assertIs(is_shortest_spreading(book, term, way), len(way) == lengths[0] + 1)
                short = shortest_spreading(book=book, term=term)
                self.check_way(book, term, short)
                self.assertEqual(len(short), lengths[0] + 1)
                self.assertIs(is_shortest_spreading(book=book, term=term, value=short), True)

    def check_way(self, book, term, way):
        self.assertEqual(way[0], term)
        for one, other in zip(way, way[1:]):
            self.assertIn(other, naive.outcomes(book, one))
        self.assertEqual(naive.outcomes(book, way[-1]), [])
        self.assertIs(is_spreading(book=book, term=term, value=way), True)
        for wrong in (way[:-1], way[1:], way + way[-1:], way[:1] + way, tuple(way), way[::-1] if len(way) > 1 else []):
            self.assertIs(is_spreading(book, term, wrong), False, wrong)

    def test_blocks_have_as_many_things_on_every_way(self):
        book, term = stop_book(), term_of("a (c + d) (a + e)")
        for way in self.all_ways(book, term):
            copied = [many_things(book, other) - many_things(book, one) for one, other in zip(way, way[1:])]
            self.assertEqual(sum(copied), copied_things(book, term))
            self.assertIs(is_spreading(book, term, way), True)
            self.assertIs(is_shortest_spreading(book, term, way), len(way) - 1 == fewest_spreads(book, term))

    def all_ways(self, book, term):
        after = spreads(book, term)
        return [[term] + way for each in after for way in self.all_ways(book, each)] if after else [[term]]

    def test_other_objects(self):
        term = term_of("a (b + c)")
        full = term_of("a b + a c")
        wrong = [[term], [full], [], [term, full, full], [term, list(full)], [term, None], [term, "a b + a c"], (term, full)]
        wrong += [[term, term_of("a b + a d")], {0: term, 1: full}, [term, ("sum", ("product", "a", "b"), "a")]]
        self.assertIs(is_spreading(stop_book(), term, [term, full]), True)
        for value in odd_objects() + wrong + NO_TERMS:
            self.assertIs(is_spreading(stop_book(), term, value), False, value)
            self.assertIs(is_shortest_spreading(stop_book(), term, value), False, value)


class WrongArgumentsTest(unittest.TestCase):
    def test_books_and_terms(self):
        for function in FOR_ALL + SETTLED_ONLY:
            check_errors(self, function, [stop_book(), "a"], [(InvalidBook, odd_objects()), (InvalidTerm, NO_TERMS)])
        for function in (is_spreading, is_shortest_spreading):
            check_errors(self, function, [stop_book(), "a", None], [
                (InvalidBook, odd_objects()), (InvalidTerm, NO_TERMS), (None, [None]),
            ])

    def test_unsettled_behind_other_errors(self):
        book = loose_book()
        for function in SETTLED_ONLY:
            for value in NO_TERMS:
                with self.assertRaises(InvalidTerm) as caught:
                    function(book, value)
                self.assertIs(caught.exception.value, value)
            with self.assertRaises(Unsettled) as caught:
                function(book, "x")
            self.assertIs(caught.exception.value, book)

    def test_lists_returned_are_new(self):
        term = term_of("a (b + c)")
        for function in (full_spreads, spreading, shortest_spreading):
            told = function(stop_book(), term)
            book = stop_book()
            function(book, term).clear()
            self.assertEqual(function(book, term), told)


if __name__ == "__main__":
    unittest.main()
