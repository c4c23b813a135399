"""[65] to [69]: prices, and [1] to [4] as far as they speak of them."""

import unittest

from kindspreads.classes import class_of
from kindspreads.errors import InvalidBook, InvalidPrices, InvalidTerm
from kindspreads.kin import is_chain
from kindspreads.kinds import Kinds
from kindspreads.prices import cheapest, fewest_signed, fewest_times, is_cheapest, is_fewest_signed, is_way_to_cheapest
from kindspreads.prices import least_price, many_by_price, many_by_signs, plus_signs, price, times_signs, way_to_cheapest
from kindspreads.rules import Rule
from kindspreads.spreads import gatherings, spreads
from kindspreads.terms import Book, kind_of, term_of
from tests import naive
from tests.books import stop_book
from tests.helper import check_errors, odd_objects, table
from tests.test_fulls import books
from tests.test_terms import NO_TERMS

FREE = ({"p": 0, "w": 0}, {"p": 0, "w": 0})
DEAR = ({"p": 3, "w": 1}, {"p": 1, "w": 0})


def signs(term, word):
    if isinstance(term, str):
        return 0
    return (len(term) - 2 if term[0] == word else 0) + sum(signs(part, word) for part in term[1:])


def cost(book, prices, term):
    """What a term costs, sign by sign, each of the kind of what it belongs to."""
    if isinstance(term, str):
        return 0
    each = prices[0 if term[0] == "product" else 1][kind_of(book, term)]
    return sum(each for _ in term[2:]) + sum(cost(book, prices, part) for part in term[1:])


def prices_for(book):
    """Prices of several sorts for the kinds of a book."""
    words = book.rule().kinds().words()
    rising = {word: at + 1 for at, word in enumerate(words)}
    falling = {word: 10 ** 9 - 5 * at for at, word in enumerate(words)}
    nothing = {word: 0 for word in words}
    return [(rising, nothing), (falling, rising), (nothing, nothing), (nothing, falling), (rising, dict(list(falling.items())[::-1]))]


class SignsTest(unittest.TestCase):
    def test_example(self):
        pence = table("pw", lambda x, y: "p" if (x, y) == ("p", "p") else "w")
        stop = Book(Rule(Kinds(pence, pence), [("p", "p", "p")], [("p", "p", "p")]), dict([(thing, "p") for thing in "abcde"] + [("m", "w")]))
        both = term_of("a (b + c) + d (c + e)")
        self.assertEqual([times_signs(stop, both), plus_signs(stop, both), times_signs(stop, "a")], [2, 3, 0])
        self.assertEqual([fewest_times(stop, both), many_by_signs(stop, both)], [2, {2: 1, 3: 3, 4: 1}])
        self.assertEqual([price(stop, DEAR, both), least_price(stop, DEAR, both)], [9, 9])
        self.assertEqual(many_by_price(stop, DEAR, both), {9: 1, 12: 3, 15: 1})
        self.assertEqual([cheapest(stop, DEAR, both), fewest_signed(stop, both)], [both, both])
        least = Kinds(table("oz", lambda x, y: "z"), table("oz", lambda x, y: "o" if x == y == "o" else "z"))
        tags = Book(Rule(least, [("o", "o", "o")], []), {"a": "o", "b": "o", "c": "o", "d": "z"})
        one, wide = term_of("a (b + c)"), term_of("a b + a c")
        odd = ({"o": 1, "z": 10}, {"o": 0, "z": 0})
        self.assertEqual([price(tags, odd, one), cheapest(tags, odd, one), is_cheapest(tags, odd, one, one)], [10, wide, False])
        self.assertEqual([way_to_cheapest(tags, odd, one), fewest_signed(tags, one)], [[one, wide], one])

    def test_signs_of_few_things(self):
        for term in naive.few_terms("am", 5):
            self.assertEqual(times_signs(book=stop_book(), term=term), signs(term, "product"))
            self.assertEqual(plus_signs(book=stop_book(), term=term), signs(term, "sum"))
        wide = term_of("(a + b + c) (d + e) a b (c + d)")
        self.assertEqual([times_signs(stop_book(), wide), plus_signs(stop_book(), wide)], [4, 4])

    def test_gatherings_leave_fewer_times_signs_and_spreads_more(self):
        for term in naive.few_terms("am", 5):
            for other in gatherings(stop_book(), term):
                self.assertLess(times_signs(stop_book(), other), times_signs(stop_book(), term))
            for other in spreads(stop_book(), term):
                self.assertGreater(times_signs(stop_book(), other), times_signs(stop_book(), term))

    def test_fewest_times_signs(self):
        for book, names in books():
            for term in naive.few_terms(names, 5)[::7]:
                kin = class_of(book, term)
                told = [signs(each, "product") for each in kin]
                self.assertEqual(fewest_times(book=book, term=term), min(told))
                found = fewest_signed(book=book, term=term)
                self.assertIn(found, kin)
                self.assertEqual(signs(found, "product"), min(told))
                self.assertEqual(list(many_by_signs(book=book, term=term).items()), [(each, told.count(each)) for each in sorted(set(told))])
                for each in kin:
                    self.assertIs(is_fewest_signed(book=book, term=term, value=each), signs(each, "product") == min(told))

    def test_judged_objects(self):
        term = term_of("a (b + c)")
        self.assertIs(is_fewest_signed(stop_book(), term, term), True)
        for value in odd_objects() + NO_TERMS + ["a", term_of("a b + a c"), list(term), [term], term_of("a (b + d)")]:
            self.assertIs(is_fewest_signed(stop_book(), term, value), False)


class PriceTest(unittest.TestCase):
    def test_all_kin_of_few_things(self):
        for book, names in books():
            for prices in prices_for(book):
                for term in naive.few_terms(names, 5)[::23]:
                    kin = class_of(book, term)
                    told = [cost(book, prices, each) for each in kin]
                    self.assertEqual([price(book=book, prices=prices, term=each) for each in kin], told)
                    self.assertEqual(least_price(book=book, prices=prices, term=term), min(told))
                    found = many_by_price(book=book, prices=prices, term=term)
                    self.assertEqual(list(found.items()), [(each, told.count(each)) for each in sorted(set(told))])
                    self.assertEqual(told[kin.index(cheapest(book=book, prices=prices, term=term))], min(told))
                    for each, each_cost in zip(kin, told):
                        self.assertIs(is_cheapest(book=book, prices=prices, term=term, value=each), each_cost == min(told))
                    self.check_way(book, prices, term, min(told))

    def check_way(self, book, prices, term, least):
        way = way_to_cheapest(book=book, prices=prices, term=term)
        self.assertIs(is_chain(book, term, way[-1], way), True)
        self.assertEqual(cost(book, prices, way[-1]), least)
        self.assertIs(is_way_to_cheapest(book=book, prices=prices, term=term, value=way), True)
        self.assertIs(is_way_to_cheapest(book, prices, term, [term]), cost(book, prices, term) == least)
        self.assertIs(is_way_to_cheapest(book, prices, term, tuple(way)), False)
        self.assertIs(is_way_to_cheapest(book, prices, term, way + way[-1:]), False)
        if cost(book, prices, term) > least:
            self.assertIs(is_way_to_cheapest(book, prices, term, way[1:]), False)
            self.assertIs(is_way_to_cheapest(book, prices, term, way[:2] + way), True)

    def test_two_kin_of_the_same_price_and_prices_of_nothing(self):
        term = term_of("(a + b) (c + d)")
        kin = class_of(stop_book(), term)
        self.assertEqual(many_by_price(stop_book(), FREE, term), {0: 8})
        self.assertTrue(all([is_cheapest(stop_book(), FREE, term, each) for each in kin]))
        self.assertEqual(many_by_price(stop_book(), DEAR, term)[price(stop_book(), DEAR, kin[1])], 2)
        self.assertEqual(way_to_cheapest(stop_book(), FREE, term), [term])

    def test_great_prices_and_great_terms(self):
        great = ({"p": 10 ** 9, "w": 10 ** 9}, {"p": 10 ** 9, "w": 10 ** 9})
        self.assertEqual(price(stop_book(), great, term_of("(a + b) (c + d) m")), 4 * 10 ** 9)
        wide = term_of("(a + b + c) (a + b + c) (a + b + c)")
        self.assertEqual(price(stop_book(), great, wide), 8 * 10 ** 9)
        self.assertEqual(price(stop_book(), DEAR, term_of("a b m")), 2)

    def test_ways_of_whatever_length(self):
        one, full = term_of("a (b + c)"), term_of("a b + a c")
        for way in ([one], [one, full, one], [one, full, one, full, one]):
            self.assertIs(is_way_to_cheapest(stop_book(), DEAR, one, way), True)
        for way in ([one, full], [full], [], [one, one], [full, one], None, {0: one}):
            self.assertIs(is_way_to_cheapest(stop_book(), DEAR, one, way), False)
        for value in odd_objects() + NO_TERMS + [[value] for value in NO_TERMS]:
            self.assertIs(is_way_to_cheapest(stop_book(), DEAR, one, value), False)
            self.assertIs(is_cheapest(stop_book(), DEAR, one, value), False)
        self.assertIs(is_cheapest(stop_book(), FREE, one, "a"), False)


class WrongArgumentsTest(unittest.TestCase):
    def test_books_and_terms(self):
        head, tail = (InvalidBook, odd_objects()), (InvalidTerm, NO_TERMS)
        for function in (times_signs, plus_signs, fewest_times, fewest_signed, many_by_signs):
            check_errors(self, function, [stop_book(), "a"], [head, tail])
        check_errors(self, is_fewest_signed, [stop_book(), "a", None], [head, tail, (None, [None])])
        good = {"p": 1, "w": 1}
        wrong = [None, [good, good], (good,), (good, good, good), good, (good, {"p": 1}), ({"p": 1}, good), ({**good, "v": 1}, good)]
        wrong += [(good, {"p": -1, "w": 1}), ({"p": True, "w": 1}, good), (good, {"p": 1, "w": False}), (good, {"p": "1", "w": 1})]
        wrong += [(good, [("p", 1), ("w", 1)]), ({"p": None, "w": 1}, good), (good, None), ({"p": 1, "v": 1}, good), (good, {1: 1, 2: 2})]
        prices = (InvalidPrices, odd_objects() + wrong)
        for function in (price, least_price, cheapest, many_by_price, way_to_cheapest):
            check_errors(self, function, [stop_book(), FREE, "a"], [head, prices, tail])
        for function in (is_cheapest, is_way_to_cheapest):
            check_errors(self, function, [stop_book(), FREE, "a", None], [head, prices, tail, (None, [None])])

    def test_what_was_passed_or_returned_may_be_changed(self):
        book, term = stop_book(), term_of("a (b + c)")
        prices = ({"p": 3, "w": 1}, {"p": 1, "w": 0})
        for function in (many_by_price, way_to_cheapest):
            told = function(book, prices, term)
            function(book, prices, term).clear()
            self.assertEqual(function(book, prices, term), told)
        told = many_by_signs(book, term)
        many_by_signs(book, term).clear()
        self.assertEqual(many_by_signs(book, term), told)
        self.assertEqual(least_price(book, prices, term), 4)
        prices[0]["p"] = 0
        self.assertEqual(least_price(book, prices, term), 1)


if __name__ == "__main__":
    unittest.main()
