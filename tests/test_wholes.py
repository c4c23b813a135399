"""[25] to [28]: words of terms, and [1], [2] as far as they speak of them."""

import unittest

from kindspreads.errors import InvalidBook, InvalidTerm
from kindspreads.kinds import Kinds
from kindspreads.rules import Rule, whole_rule
from kindspreads.spreads import spreads
from kindspreads.terms import Book, kind_of, term_of, text_of
from kindspreads.wholes import have_like_words, is_small, is_whole, many_words, parting_word, whole_of, word_things
from kindspreads.wholes import words_of
from tests import naive
from tests.books import stop_book
from tests.helper import PPP, check_errors, odd_objects, one_kind
from tests.test_terms import NO_TERMS

ALONE = Book(Rule(one_kind(), [PPP], []), {thing: "p" for thing in "abcdefghi"})


def few_terms():
    return [term for terms in naive.all_terms("ab", 4).values() for term in terms]


class WordsTest(unittest.TestCase):
    def test_example(self):
        pairs, two = ("product", ("sum", "a", "b"), ("sum", "c", "d")), term_of("a (b + c) + d (c + e)")
        self.assertEqual(words_of(ALONE, pairs), [("a", "c"), ("a", "d"), ("b", "c"), ("b", "d")])
        self.assertEqual([many_words(ALONE, two), word_things(ALONE, two)], [4, 8])
        self.assertEqual([text_of(whole_of(ALONE, two)), is_whole(ALONE, two)], ["a b + a c + d c + d e", False])
        self.assertIs(have_like_words(ALONE, two, term_of("(a + d) c + a b + d e")), True)
        self.assertEqual(parting_word(ALONE, two, term_of("a (b + c) + d c")), ("d", "e"))
        three = ("product", ("sum", "a", "b"), ("sum", "c", "d"), ("sum", "a", "e"))
        self.assertEqual([is_small(ALONE, two), is_small(ALONE, three)], [True, False])
        row = ("product", "a", ("sum", "b", "b", "c"))
        self.assertEqual(words_of(ALONE, row), [("a", "b"), ("a", "b"), ("a", "c")])

    def test_words_as_told(self):
        self.assertEqual(words_of(book=ALONE, term="a"), [("a",)])
        self.assertEqual(words_of(ALONE, term_of("(a + b c) ((d + e) f + a)")), sorted(
            [("a", "a"), ("a", "d", "f"), ("a", "e", "f"), ("b", "c", "a"), ("b", "c", "d", "f"), ("b", "c", "e", "f")]))
        for term in few_terms():
            told = sorted(naive.words(term))
            self.assertEqual(words_of(ALONE, term), told)
            self.assertEqual([many_words(book=ALONE, term=term), word_things(book=ALONE, term=term)],
                             [len(told), sum(len(word) for word in told)])

    def test_words_of_many_are_counted_without_going_through_them(self):
        nine = ("sum",) + tuple("abcdefghi")
        term = ("product",) + (nine,) * 30
        self.assertEqual([many_words(ALONE, term), word_things(ALONE, term)], [9 ** 30, 30 * 9 ** 30])
        self.assertIs(is_small(ALONE, term), False)
        deep = term_of("(a + b c)" + " (a + b c)" * 19)
        self.assertEqual([many_words(ALONE, deep), word_things(ALONE, deep)], [2 ** 20, 20 * 3 * 2 ** 19])

    def test_spreads_leave_the_words(self):
        book = Book(whole_rule(one_kind()), {"a": "p", "b": "p"})
        for term in few_terms():
            for outcome in spreads(book, term):
                self.assertEqual(words_of(book, outcome), words_of(book, term))

    def test_like_words(self):
        groups = {}
        for term in few_terms():
            groups.setdefault(tuple(sorted(naive.words(term))), []).append(term)
        firsts = [terms[0] for terms in groups.values()]
        for terms in groups.values():
            for term in terms:
                self.assertIs(have_like_words(book=ALONE, one=term, other=terms[0]), True)
                self.assertIsNone(parting_word(book=ALONE, one=terms[0], other=term))
        for one in firsts[:40]:
            for other in firsts:
                some, others = naive.words(one), naive.words(other)
                unlike = [word for word in sorted(some + others) if some.count(word) != others.count(word)]
                self.assertIs(have_like_words(ALONE, one, other), not unlike)
                self.assertEqual(parting_word(ALONE, one, other), unlike[0] if unlike else None)

    def test_words_that_come_unlike_often(self):
        self.assertEqual(parting_word(ALONE, term_of("a + a + b"), term_of("a + b + b")), ("a",))
        self.assertEqual(parting_word(ALONE, term_of("b + c"), term_of("b + c + c")), ("c",))
        self.assertEqual(parting_word(ALONE, term_of("a b"), term_of("b a")), ("a", "b"))


class WholeTest(unittest.TestCase):
    def test_the_sum_of_the_products_of_words(self):
        for text, told in (("a", "a"), ("a b", "a b"), ("a (b + b)", "a b + a b"),
                           ("(a + b c) d", "a d + b c d"), ("(b + c) a + a", "a + b a + c a")):
            self.assertEqual(text_of(whole_of(book=ALONE, term=term_of(text))), told)
        for term in few_terms():
            whole = whole_of(ALONE, term)
            rows = [naive.flat("product", list(word)) for word in naive.words(term)]
            self.assertEqual(whole, naive.flat("sum", rows))
            self.assertIs(is_whole(book=ALONE, term=term), whole == term)
            self.assertIs(is_whole(ALONE, whole), True)

    def test_it_has_the_kind_where_the_tables_spread(self):
        pence = {(x, y): "p" if x == y == "p" else "w" for x in "pw" for y in "pw"}
        book = Book(Rule(Kinds(pence, pence), [], []), {"a": "p", "b": "w"})
        for term in few_terms():
            self.assertEqual(kind_of(book, whole_of(book, term)), kind_of(book, term))

    def test_by_all_triples_it_is_the_last_of_all_spreads(self):
        book = Book(whole_rule(one_kind()), {"a": "p", "b": "p"})
        for term in few_terms():
            self.assertIs(is_whole(book, term), not spreads(book, term))


class SmallTest(unittest.TestCase):
    def test_bounds(self):
        told = [
            ("a + b + c + d + e + f", True), ("a + b + c + d + e + f + g", False), ("a b + a b + a b + a b + a b + a b", True),
            ("a a b + a b + a b + a b + a b + a b", False), ("a b c d e f a b c d e f", True),
            ("a b c d e f a b c d e f a", False), ("(a + b) (c + d + e)", True), ("(a + b) (c + d + e) f", False),
        ]
        for text, small in told:
            self.assertIs(is_small(book=ALONE, term=term_of(text)), small, text)


class WrongArgumentsTest(unittest.TestCase):
    def test_one_term(self):
        for function in (words_of, many_words, word_things, whole_of, is_whole, is_small):
            check_errors(self, function, [stop_book(), "a"], [(InvalidBook, odd_objects()), (InvalidTerm, NO_TERMS)])

    def test_two_terms(self):
        for function in (have_like_words, parting_word):
            check_errors(self, function, [stop_book(), "a", "b"], [
                (InvalidBook, odd_objects()),
                (InvalidTerm, NO_TERMS),
                (InvalidTerm, NO_TERMS),
            ])

    def test_the_list_returned_is_new(self):
        words_of(ALONE, "a").clear()
        self.assertEqual(words_of(ALONE, "a"), [("a",)])


if __name__ == "__main__":
    unittest.main()
