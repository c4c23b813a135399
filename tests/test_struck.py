"""[74] to [78]: what is struck and what is hidden, and [1] to [4] as far as they speak of them."""

import unittest

from kindspreads.errors import InvalidBook, InvalidTerm, InvalidTerms, InvalidWord, Refused, Unsettled
from kindspreads.fulls import full_spread
from kindspreads.kin import are_kin
from kindspreads.kinds import Kinds
from kindspreads.rules import Rule, whole_rule
from kindspreads.shapes import is_settled
from kindspreads.struck import common, freeing_things, frees, hides, hiding_things, kin_pairs, kin_struck, pairs_with, struck
from kindspreads.terms import Book, product_of, sum_of, term_of, text_of
from tests import naive
from tests.books import books_over, stop_book
from tests.helper import check_errors, odd_objects, one_kind, table
from tests.test_fulls import books, loose_book
from tests.test_terms import NO_TERMS

EVERYWHERE = Book(whole_rule(one_kind()), {thing: "p" for thing in "abcdefghi"})
SIX = ["a", "b", term_of("a (b + c)"), term_of("a b + a c"), term_of("a b"), term_of("b a")]


def least_plus():
    return table("oz", lambda x, y: "o")


def freeing_book():
    """The document's book of a rule that is not settled: gathered with a third summand, two terms become kin."""
    least = Kinds(least_plus(), table("oz", lambda x, y: "o" if x == y == "o" else "z"))
    rule = Rule(least, [("o", "o", "o"), ("o", "o", "z"), ("o", "z", "o")], [])
    return Book(rule, {"p": "o", "a": "z", "c": "z"})


def hiding_book():
    """The document's book: blocks of the kind "o" spread over all, and a product is of the kind of its first factor."""
    front = Kinds(least_plus(), table("oz", lambda x, y: x))
    left = [("o", "o", "o"), ("o", "o", "z"), ("o", "z", "o"), ("o", "z", "z")]
    return Book(Rule(front, left, []), {"p": "o", "b": "z", "c": "z", "d": "z"})


def summands(term):
    return list(term[1:]) if naive.is_sum(term) else [term]


def left_over(some, others):
    rest = list(some)
    for each in others:
        if each in rest:
            rest.remove(each)
    return rest


class StruckTest(unittest.TestCase):
    def test_example(self):
        book = hiding_book()
        one, other = term_of("c + c + d"), term_of("b + c + d")
        self.assertEqual([common(book, one, other), struck(book, one, other)], [["c", "d"], ("c", "b")])
        self.assertEqual(struck(book, "c", term_of("c + d")), (None, "d"))

    def test_all_terms_of_few_things(self):
        book = stop_book()
        terms = naive.few_terms("am", 4)
        for one in terms[::3]:
            for other in terms[::5] + [one]:
                both = left_over(summands(one), left_over(summands(one), summands(other)))
                self.assertEqual(common(book=book, one=one, other=other), sorted(both, key=text_of))
                rows = [left_over(summands(one), both), left_over(summands(other), both)]
                told = tuple([naive.flat("sum", row) if row else None for row in rows])
                self.assertEqual(struck(book=book, one=one, other=other), told)

    def test_summands_that_both_have_once_and_twice(self):
        book = stop_book()
        told = [("a + a + a b", "a + a + b", ["a", "a"], ("a b", "b")), ("a + a + b", "a + c", ["a"], ("a + b", "c")),
                ("a b + a b", "a b", ["a b"], ("a b", None)), ("a + b", "a + b", ["a", "b"], (None, None)),
                ("a", "a", ["a"], (None, None)), ("a b", "b a", [], ("a b", "b a")), ("a (b + c)", "b + c", [], ("a (b + c)", "b + c")),
                ("a (b + c) + b", "a (b + c) + b + c + c", ["a (b + c)", "b"], (None, "c + c"))]
        for one, other, both, left in told:
            one, other = term_of(one), term_of(other)
            self.assertEqual([text_of(term) for term in common(book, one, other)], both)
            self.assertEqual(struck(book, one, other), tuple([term and term_of(term) for term in left]))
            self.assertEqual(struck(book, other, one), tuple([term and term_of(term) for term in left[::-1]]))


class KinStruckTest(unittest.TestCase):
    def test_all_terms_of_few_things(self):
        for book, names in books():
            terms = naive.few_terms(names, 4)
            classes = naive.classes(book, terms)
            for one in terms[::6]:
                for other in terms[::7] + classes[one]:
                    if is_settled(book.rule()):
                        self.assertIs(kin_struck(book=book, one=one, other=other), other in classes[one])
                    else:
                        with self.assertRaises(Unsettled) as caught:
                            kin_struck(book, one, other)
                        self.assertIs(caught.exception.value, book)

    def test_sums_with_common_summands(self):
        for book in books_over({"a": "p", "m": "w"}):
            for text, after in [("a (a + a)", "a a + a a"), ("m (a + a)", "m a + m a"), ("a", "a"), ("a", "m")]:
                for third in ("a", "a a + a m", "a (a + a)", "m + m (a + a)"):
                    one, other = [sum_of(book, [term_of(each), term_of(third)]) for each in (text, after)]
                    kin = are_kin(book, one, other)
                    self.assertIs(kin_struck(book, one, other), kin)
                    self.assertIs(kin, are_kin(book, term_of(text), term_of(after)))

    def test_terms_of_whatever_size(self):
        term = term_of("(a + b + c) (d + e + f) (g + h + i)")
        wide = full_spread(EVERYWHERE, term)
        self.assertIs(kin_struck(EVERYWHERE, term, wide), True)
        self.assertIs(kin_struck(EVERYWHERE, wide, sum_of(EVERYWHERE, [wide, "a"])), False)
        self.assertIs(kin_struck(EVERYWHERE, sum_of(EVERYWHERE, [term, "a"]), sum_of(EVERYWHERE, [wide, "b"])), False)
        self.assertIs(kin_struck(EVERYWHERE, sum_of(EVERYWHERE, [term, "a"]), sum_of(EVERYWHERE, [wide, "a"])), True)


class FreesTest(unittest.TestCase):
    def test_example(self):
        book = freeing_book()
        one, other, third = term_of("p (a + a)"), term_of("p a + p a"), term_of("p (c + c)")
        self.assertIs(is_settled(book.rule()), False)
        self.assertEqual([frees(book, one, other, third), freeing_things(book, one, other)], [True, []])
        self.assertEqual([kin_pairs(book, [one, other]), pairs_with(book, [one, other], third)], [[], [(0, 1)]])

    def test_third_terms_that_free_and_that_do_not(self):
        book = freeing_book()
        one, other = term_of("p (a + a)"), term_of("p a + p a")
        thirds = [("p (c + c)", True), ("p (a + c)", True), ("p (a + a)", True), ("p c", False), ("c p", False), ("c", False), ("p", False)]
        for third, told in thirds:
            self.assertIs(frees(book=book, one=one, other=other, third=term_of(third)), told, third)

    def test_all_terms_of_few_things(self):
        told = {True: 0, False: 0}
        for book, names in books() + [(freeing_book(), "pa")]:
            terms = naive.few_terms(names, 4)
            classes = naive.classes(book, terms)
            thirds = [names[0], terms[-1], terms[len(terms) // 2]]
            for one in terms[::11]:
                for other in terms[::13] + terms[:3]:
                    for third in thirds:
                        told[self.check_freeing(book, classes, one, other, third)] += 1
        self.assertTrue(all(told.values()))

    def check_freeing(self, book, classes, one, other, third):
        if other in classes[one]:
            for function, given in ((frees, [book, one, other, third]), (freeing_things, [book, one, other])):
                with self.assertRaises(Refused) as caught:
                    function(*given)
                self.assertIs(caught.exception.value, other)
            return False
        freed = are_kin(book, sum_of(book, [one, third]), sum_of(book, [other, third]))
        self.assertIs(frees(book, one, other, third), freed)
        self.assertFalse(freed and is_settled(book.rule()))
        self.assertEqual(freeing_things(book=book, one=one, other=other), [])
        return True


class HidesTest(unittest.TestCase):
    def test_example(self):
        book = hiding_book()
        first, second = term_of("b (c + d)"), term_of("b c + b d")
        self.assertIs(hides(book=book, one=first, other=second, thing="p", word="ahead"), True)
        self.assertIs(hides(book, first, second, "p", "behind"), False)
        self.assertEqual(hiding_things(book=book, one=first, other=second), [("ahead", "p")])

    def test_behind(self):
        front = Kinds(least_plus(), table("oz", lambda x, y: y))
        right = [("o", "o", "o"), ("o", "z", "o"), ("z", "o", "o"), ("z", "z", "o")]
        book = Book(Rule(front, [], right), {"p": "o", "b": "z", "c": "z", "d": "z", "q": "o"})
        first, second = term_of("(c + d) b"), term_of("c b + d b")
        self.assertEqual(hiding_things(book, first, second), [("behind", "p"), ("behind", "q")])
        self.assertEqual([hides(book, first, second, "q", word) for word in ("ahead", "behind")], [False, True])

    def test_all_terms_of_few_things(self):
        for book, names in books() + [(hiding_book(), "pb")]:
            terms = naive.few_terms(names, 4)
            classes = naive.classes(book, terms)
            for one in terms[::11]:
                for other in terms[::13] + terms[:3]:
                    self.check_hiding(book, classes, one, other)

    def check_hiding(self, book, classes, one, other):
        if other in classes[one]:
            for function, given in ((hides, [book, one, other, list(book.things())[0], "ahead"]), (hiding_things, [book, one, other])):
                with self.assertRaises(Refused) as caught:
                    function(*given)
                self.assertIs(caught.exception.value, other)
            return
        found = []
        for word in ("ahead", "behind"):
            for thing in book.things():
                rows = [[thing, term] if word == "ahead" else [term, thing] for term in (one, other)]
                kin = are_kin(book, product_of(book, rows[0]), product_of(book, rows[1]))
                self.assertIs(hides(book, one, other, thing, word), kin)
                found += [(word, thing)] if kin else []
        self.assertEqual(hiding_things(book, one, other), found)


class PairsTest(unittest.TestCase):
    def test_lists_of_no_terms_and_of_six(self):
        book = stop_book()
        self.assertEqual([kin_pairs(book, []), pairs_with(book, [], "a"), kin_pairs(book, ["a"])], [[], [], []])
        self.assertEqual([kin_pairs(book=book, terms=SIX), pairs_with(book=book, terms=SIX, third="a")], [[(2, 3)], [(2, 3)]])
        self.assertEqual(kin_pairs(book, ["a", "b", "a", "a"]), [(0, 2), (0, 3), (2, 3)])
        self.assertEqual(len(kin_pairs(book, ["a"] * 6)), 15)
        self.assertEqual(kin_pairs(book, ["a"] * 6), sorted(kin_pairs(book, ["a"] * 6)))

    def test_a_third_term(self):
        for book, names in books() + [(freeing_book(), "pac")]:
            terms = naive.few_terms(names, 4)[2::29][:6]
            for third in naive.few_terms(names, 3)[::17]:
                with_third = [sum_of(book, [term, third]) for term in terms]
                for told, row in ((kin_pairs(book, terms), terms), (pairs_with(book, terms, third), with_third)):
                    pairs = [(a, b) for a in range(len(row)) for b in range(a + 1, len(row)) if are_kin(book, row[a], row[b])]
                    self.assertEqual(told, pairs)
                if is_settled(book.rule()):
                    self.assertEqual(kin_pairs(book, terms), pairs_with(book, terms, third))

    def test_in_settled_rules_terms_need_not_be_small(self):
        term = term_of("(a + b + c) (d + e + f) (g + h + i)")
        wide = full_spread(EVERYWHERE, term)
        self.assertEqual(kin_pairs(EVERYWHERE, [term, "a", wide]), [(0, 2)])
        self.assertEqual(pairs_with(EVERYWHERE, [term, "a", wide], term), [(0, 2)])
        self.assertIs(frees(EVERYWHERE, term, "a", wide), False)
        self.assertEqual([hides(EVERYWHERE, term, "a", "i", "ahead"), hiding_things(EVERYWHERE, wide, "a")], [False, []])


class WrongArgumentsTest(unittest.TestCase):
    def test_books_and_terms(self):
        two = [(InvalidBook, odd_objects()), (InvalidTerm, NO_TERMS), (InvalidTerm, NO_TERMS)]
        for function in (common, struck, kin_struck, freeing_things, hiding_things):
            check_errors(self, function, [stop_book(), "a", "b"], two)
        check_errors(self, frees, [stop_book(), "a", "b", "c"], two + [(InvalidTerm, NO_TERMS)])
        terms = (InvalidTerm, NO_TERMS + [term_of("a b"), term_of("a + a"), ["a"]])
        words = (InvalidWord, odd_objects() + ["left", "aheads"])
        check_errors(self, hides, [stop_book(), "a", "b", "c", "ahead"], two + [terms, words])

    def test_lists_of_terms(self):
        lists = [None, (), ("a",), {"a": "a"}, "a", SIX + ["a"], ["a", None], [["a"]], ["z"], [term_of("a z")], [True], [1]]
        head, tail = (InvalidBook, odd_objects()), (InvalidTerm, NO_TERMS)
        check_errors(self, kin_pairs, [stop_book(), []], [head, (InvalidTerms, lists)])
        check_errors(self, pairs_with, [stop_book(), [], "a"], [head, (InvalidTerms, lists), tail])

    def test_refused_and_unsettled_come_behind_all_other_errors(self):
        book, loose = stop_book(), loose_book()
        for wrong in NO_TERMS:
            with self.assertRaises(InvalidTerm) as caught:
                kin_struck(loose, "x", wrong)
            self.assertIs(caught.exception.value, wrong)
            with self.assertRaises(InvalidTerm) as caught:
                frees(book, "a", "a", wrong)
            self.assertIs(caught.exception.value, wrong)
            with self.assertRaises(InvalidTerm) as caught:
                hides(book, "a", "a", wrong, "ahead")
            self.assertIs(caught.exception.value, wrong)
        for wrong in odd_objects():
            with self.assertRaises(InvalidWord) as caught:
                hides(book, "a", "a", "b", wrong)
            self.assertIs(caught.exception.value, wrong)

    def test_lists_returned_are_new(self):
        book = hiding_book()
        one, other = term_of("b (c + d)"), term_of("b c + b d")
        calls = (lambda: common(book, one, one), lambda: hiding_things(book, one, other), lambda: kin_pairs(book, [one, one]),
                 lambda: pairs_with(book, [one, one], "p"), lambda: freeing_things(book, one, other))
        for call in calls:
            told = call()
            call().append(None)
            self.assertEqual(call(), told)


if __name__ == "__main__":
    unittest.main()
