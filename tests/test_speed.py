"""[3]: calls within the limits come to an end in fair time; the bounds have room to spare for slow machines."""

import time
import unittest

from kindspreads.classes import class_size
from kindspreads.fulls import copied_things, full_spread, is_full
from kindspreads.kin import are_kin, chain, is_chain
from kindspreads.kinds import Kinds, is_plus_table
from kindspreads.prices import fewest_times, is_way_to_cheapest, least_price, many_by_price, many_by_signs, way_to_cheapest
from kindspreads.rules import Rule, whole_rule
from kindspreads.spreads import cases, gatherings, lacking, many_things, spreads
from kindspreads.terms import Book, depth, inner_terms, kind_of, mirrored_term, parts_of, term_of
from kindspreads.wholes import is_small, is_whole, many_words, whole_of, word_things, words_of
from tests.books import stop_book
from tests.helper import one_kind, table

TEXTS = ["a (b + c (d + e)) f + g (h + i)", "(a + b) (c + d) (e + f (g + h)) i", "a b c + d e f + g h i",
         "a (b + c + d) e (f + g) h i", "(a + b + c) (d + e + f) (g + h + i)", "a b (c + d) + a b e"]
QUESTIONS = [kind_of, parts_of, inner_terms, depth, mirrored_term, words_of, many_words, word_things, whole_of, is_whole,
             is_small, spreads, gatherings, many_things, cases, lacking]


class SpeedTest(unittest.TestCase):
    def test_some_hundred_kinds_rules_books_terms_and_questions(self):
        # Less than ten thousandths of a second on a fast machine; the bound is twenty times as much.
        greater = table("abc", max)
        things = {thing: "abc"[at % 3] for at, thing in enumerate("abcdefghi")}
        left = [triple for triple in whole_rule(Kinds(greater, greater)).left() if triple[1] == triple[2]][:8]
        begun = time.process_time()
        for at in range(100):
            kinds = Kinds(greater, greater)
            book = Book(Rule(kinds, left, []), things)
            QUESTIONS[at % len(QUESTIONS)](book, term_of(TEXTS[at % len(TEXTS)]))
        self.assertLess(time.process_time() - begun, 0.2)

    def test_questions_about_the_classes_of_a_few_terms(self):
        # Less than 0.2 seconds on a fast machine.
        terms = [term_of(text) for text in ("(a + b) (c + d)", "a (b + c + d + e)", "(a + b + c) (d + e)")]
        prices = ({"p": 3, "w": 1}, {"p": 1, "w": 0})
        begun = time.process_time()
        for _ in range(100):
            for term in terms:
                book = stop_book()
                told = [least_price(book, prices, term), many_by_price(book, prices, term), fewest_times(book, term), many_by_signs(book, term)]
                way = way_to_cheapest(book, prices, term)
                self.assertIs(is_way_to_cheapest(book, prices, term, way), True)
                self.assertEqual([sum(told[1].values()), sum(told[3].values())], [class_size(book, term)] * 2)
        self.assertLess(time.process_time() - begun, 5)

    def test_tables_of_many_words(self):
        begun = time.process_time()
        words = [one + other for one in "abcdefghijkl" for other in "abcdefghij"]
        self.assertIs(is_plus_table({(one, other): max(one, other) for one in words for other in words}), True)
        self.assertIs(is_plus_table({(one, other): min(words) for one in words for other in words}), True)
        self.assertLess(time.process_time() - begun, 10)

    def test_terms_of_nine_things(self):
        book = Book(whole_rule(one_kind()), {thing: "p" for thing in "abcdefghi"})
        begun = time.process_time()
        for text in TEXTS:
            term = term_of(text)
            full = full_spread(book, term)
            self.assertEqual([is_full(book, full), are_kin(book, term, full)], [True, True])
            way = chain(book, term, full)
            self.assertIs(is_chain(book, term, full, way), True)
            self.assertLessEqual(len(way) - 1, copied_things(book, term))
        self.assertLess(time.process_time() - begun, 10)


class TakenTest(unittest.TestCase):
    def test_what_was_handed_in_and_is_then_changed_is_judged_anew(self):
        greater = table("ab", max)
        kinds = Kinds(greater, greater)
        left = [("a", "a", "a")]
        rule = Rule(kinds, left, [])
        greater[("a", "a")] = "z"
        left.clear()
        self.assertIs(is_plus_table(greater), False)
        self.assertEqual([kinds.add("a", "a"), rule.left()], ["a", [("a", "a", "a")]])
        rule.left().clear()
        kinds.plus().clear()
        self.assertEqual([kinds.plus() == table("ab", max), rule.left()], [True, [("a", "a", "a")]])


if __name__ == "__main__":
    unittest.main()
