"""[45] to [50]: kin, and [1] to [4] as far as they speak of them."""

import unittest

from kindspreads.errors import Apart, InvalidBook, InvalidRule, InvalidTerm, Refused, Unlike
from kindspreads.fulls import copied_things
from kindspreads.kin import apart_paper, are_kin, beside, chain, is_alone, is_apart_paper, is_chain, is_closed, kin_by
from kindspreads.kinds import Kinds
from kindspreads.rules import Rule, is_within, whole_rule
from kindspreads.shapes import is_settled
from kindspreads.spreads import gatherings, spreads
from kindspreads.terms import Book, kind_of, term_of, text_of
from kindspreads.wholes import have_like_words
from tests import naive
from tests.books import books_over, stop_book
from tests.helper import PPP, check_errors, odd_objects, one_kind, stop_kinds, stop_rule, table, three_kinds
from tests.test_fulls import books, loose_book
from tests.test_shapes import nought_rule
from tests.test_terms import NO_TERMS

EVERYWHERE = Book(whole_rule(one_kind()), {thing: "p" for thing in "abcdefghi"})


def hiding_book():
    """A book whose products have the kind of their first factor: a factor ahead lets spread what else does not."""
    flat = Kinds(table("nu", lambda x, y: "u"), table("nu", lambda x, y: x))
    left = [("u", "n", "n"), ("u", "n", "u"), ("u", "u", "n"), ("u", "u", "u")]
    return Book(Rule(flat, left, []), {"p": "u", "b": "n", "c": "n", "d": "n"})


class KinTest(unittest.TestCase):
    def test_example(self):
        book = Book(stop_rule(), {"a": "p", "b": "p", "c": "p", "d": "p", "m": "w"})
        two, kept, apart = term_of("(a + b) (c + d)"), term_of("m a (b + c)"), term_of("m a b + m a c")
        one, other = term_of("a (c + d) + b (c + d)"), term_of("(a + b) c + (a + b) d")
        self.assertEqual([are_kin(book, one, other), len(beside(book, one))], [True, 3])
        self.assertEqual([is_chain(book, one, other, [one, two, other]), is_chain(book, one, other, [one, other])], [True, False])
        self.assertIs(are_kin(book, kept, apart), False)
        self.assertEqual([is_closed(book, [term_of("m (a b + a c)"), kept]), is_closed(book, [kept])], [True, False])
        self.assertIs(is_apart_paper(book, kept, apart, apart_paper(book, kept, apart)), True)
        self.assertEqual([is_alone(book, kept), kin_by(book, Rule(stop_kinds(), [PPP], []), one, other)], [False, False])
        hide = hiding_book()
        self.assertIs(are_kin(hide, term_of("b (c + d)"), term_of("b c + b d")), False)
        self.assertIs(are_kin(hide, term_of("p b (c + d)"), term_of("p (b c + b d)")), True)
        self.assertIs(is_alone(hide, term_of("b (c + d)")), True)

    def test_classes_of_all_terms_of_few_things(self):
        for book, names in books():
            terms = naive.few_terms(names, 5)
            classes = naive.classes(book, terms)
            for term in terms[::5]:
                for other in terms[::9] + classes[term]:
                    self.assertIs(are_kin(book=book, one=term, other=other), other in classes[term])

    def test_kin_have_the_same_words_and_kind(self):
        for book, names in books():
            classes = naive.classes(book, naive.few_terms(names, 4))
            for term, kin in classes.items():
                for other in kin:
                    self.assertTrue(have_like_words(book, term, other) and kind_of(book, term) == kind_of(book, other))

    def test_terms_of_nine_things_in_settled_rules(self):
        told = [("(a + b + c) (d + e + f) (g + h + i)", "((b + c) (d + e + f) + a (d + e + f)) (g + h + i)"),
                ("a (b + c + d + e + f + g + h + i)", "a (b + c + d + e) + a (f + g + h + i)"),
                ("(a + b) (c + d) (e + f) (g + h) i", "((a c + a d) (e + f) + b (c + d) (e + f)) (g i + h i)")]
        for one, other in told:
            one, other = term_of(one), term_of(other)
            self.assertIs(are_kin(EVERYWHERE, one, other), True)
            way = chain(EVERYWHERE, one, other)
            self.assertIs(is_chain(EVERYWHERE, one, other, way), True)
            self.assertIs(is_chain(EVERYWHERE, one, other, way[:-1]), False)
            self.assertIs(is_chain(EVERYWHERE, other, one, way[::-1]), True)
            self.assertLessEqual(len(way) - 1, copied_things(EVERYWHERE, one) + copied_things(EVERYWHERE, other))
        self.assertIs(are_kin(EVERYWHERE, term_of("a b c d e f g h i"), term_of("a b c d e f g i h")), False)


class ChainTest(unittest.TestCase):
    def test_chains_of_all_kin_of_few_things(self):
        for book, names in books():
            settled = is_settled(book.rule())
            classes = naive.classes(book, naive.few_terms(names, 5))
            for term in list(classes)[::4]:
                for other in classes[term]:
                    way = chain(book=book, one=term, other=other)
                    self.check_chain(book, term, other, way)
                    if settled:
                        self.assertLessEqual(len(way) - 1, copied_things(book, term) + copied_things(book, other))

    def check_chain(self, book, one, other, way):
        self.assertEqual([way[0], way[-1]], [one, other])
        for here, there in zip(way, way[1:]):
            self.assertTrue(there in naive.outcomes(book, here) or here in naive.outcomes(book, there))
        self.assertIs(is_chain(book=book, one=one, other=other, value=way), True)

    def test_chains_by_spreads_there_and_gatherings_back_and_with_a_term_twice(self):
        book, term, full = stop_book(), term_of("a (b + c)"), term_of("a b + a c")
        for way in ([term], [term, full, term], [term, full, term, full, term]):
            self.assertIs(is_chain(book, term, term, way), True)
        for way in ([full], [term, full], [term, term], [], [full, term, full], (term,), [term, full, full, term], [list(term)]):
            self.assertIs(is_chain(book, term, term, way), False)
        self.assertIs(is_chain(book, full, term, [full, term]), True)

    def test_no_chain_of_terms_that_are_apart(self):
        book, one, other = stop_book(), term_of("m (a + b)"), term_of("m a + m b")
        for value in ([one, other], [one], [other, one], [one, one, other]):
            self.assertIs(is_chain(book, one, other, value), False)

    def test_other_objects(self):
        term = term_of("a (b + c)")
        for value in odd_objects() + NO_TERMS + [[value] for value in NO_TERMS] + [{0: term}]:
            self.assertIs(is_chain(stop_book(), term, term, value), False)

    def test_apart(self):
        for book in (stop_book(), Book(nought_rule(), {"a": "t", "b": "t", "c": "t", "d": "n", "e": "n", "m": "o"})):
            one, other = term_of("a (b + m)"), term_of("a b + a m")
            with self.assertRaises(Apart) as caught:
                chain(book, one, other)
            self.assertIs(caught.exception.value, other)
            for wrong in NO_TERMS:
                with self.assertRaises(InvalidTerm) as caught:
                    chain(book, one, wrong)
                self.assertIs(caught.exception.value, wrong)


class ClosedTest(unittest.TestCase):
    def test_classes_and_lots_of_classes(self):
        for book, names in books():
            terms = naive.few_terms(names, 4)
            classes = naive.classes(book, terms)
            for term in terms[::3]:
                kin = classes[term]
                self.assertIs(is_closed(book=book, value=kin), True)
                both = sorted(set(kin + classes[terms[0]]), key=naive.text)
                self.assertIs(is_closed(book, both), True)
                self.check_nearly_closed(book, kin)
            self.assertIs(is_closed(book, sorted(terms, key=naive.text)), True)

    def check_nearly_closed(self, book, kin):
        for at in range(len(kin)):
            self.assertIs(is_closed(book, kin[:at] + kin[at + 1:]), False)
            self.assertIs(is_closed(book, kin[:at + 1] + kin[at:]), False)
        if len(kin) > 1:
            self.assertIs(is_closed(book, kin[::-1]), False)
        self.assertIs(is_closed(book, tuple(kin)), False)

    def test_one_too_many(self):
        book, term = stop_book(), term_of("m a (b + c)")
        kin = [term_of("m (a b + a c)"), term]
        self.assertIs(is_closed(book, kin), True)
        self.assertIs(is_closed(book, kin + [term_of("m a b")]), True)
        self.assertIs(is_closed(book, [term_of("a (b + c)")] + kin), False)

    def test_other_objects(self):
        for value in odd_objects() + NO_TERMS + [[value] for value in NO_TERMS]:
            self.assertIs(is_closed(stop_book(), value), False)
        self.assertIs(is_closed(stop_book(), ["a", "b", ("product", "a", "b")]), False)
        self.assertIs(is_closed(stop_book(), ["a", ("product", "a", "b"), "b"]), True)


class ApartPaperTest(unittest.TestCase):
    def test_of_all_terms_of_few_things(self):
        for book, names in books():
            terms = naive.few_terms(names, 4)
            classes = naive.classes(book, terms)
            for term in terms[::7]:
                for other in terms[::5]:
                    if other in classes[term]:
                        self.assertIs(is_apart_paper(book, term, other, classes[term]), False)
                        with self.assertRaises(Refused) as caught:
                            apart_paper(book, term, other)
                        self.assertIs(caught.exception.value, other)
                    else:
                        self.check_paper(book, term, other, apart_paper(book=book, one=term, other=other))

    def check_paper(self, book, one, other, paper):
        for each in paper:
            self.assertTrue(set(spreads(book, each) + gatherings(book, each)) <= set(paper))
        self.assertTrue(one in paper and other not in paper)
        self.assertIs(is_apart_paper(book=book, one=one, other=other, value=paper), True)
        self.assertIs(is_apart_paper(book, other, one, paper), False)
        self.assertIs(is_apart_paper(book, one, other, paper[1:]), False)
        self.assertIs(is_apart_paper(book, one, other, sorted(paper + [other], key=naive.text)), False)

    def test_other_objects(self):
        for value in odd_objects() + NO_TERMS + [["a", None], ["b"], ("a",), "a", ["a", "a"]]:
            self.assertIs(is_apart_paper(stop_book(), "a", "b", value), False)
        self.assertIs(is_apart_paper(stop_book(), "a", "b", ["a"]), True)
        self.assertIs(is_apart_paper(stop_book(), "a", "a", ["a"]), False)


class BesideTest(unittest.TestCase):
    def test_outcomes_of_both(self):
        for book, names in books():
            for term in naive.few_terms(names, 5)[::2]:
                told = sorted(set(spreads(book, term) + gatherings(book, term)), key=text_of)
                self.assertEqual(beside(book=book, term=term), told)
                self.assertIs(is_alone(book=book, term=term), told == [])

    def test_a_thing_alone(self):
        self.assertEqual([beside(EVERYWHERE, "a"), is_alone(EVERYWHERE, "a"), are_kin(EVERYWHERE, "a", "a")], [[], True, True])
        self.assertEqual([chain(EVERYWHERE, "a", "a"), are_kin(EVERYWHERE, "a", "b")], [["a"], False])


class KinByTest(unittest.TestCase):
    def test_lesser_rules(self):
        things = {"a": "p", "m": "w"}
        some = books_over(things)
        terms = naive.few_terms("am", 4)
        for book in some:
            classes = naive.classes(book, terms)
            for term in terms[::4]:
                for other in terms[::3] + classes[term]:
                    for asked in some[::2]:
                        self.assertIs(kin_by(book=asked, rule=book.rule(), one=term, other=other), other in classes[term])
        for lesser in some:
            for greater in some:
                if is_within(lesser.rule(), greater.rule()):
                    for term, kin in naive.classes(lesser, terms[:200]).items():
                        self.assertTrue(all([kin_by(lesser, greater.rule(), term, other) for other in kin]))

    def test_where_all_spreads_like_words_tell(self):
        book = Book(Rule(three_kinds(), [], []), {"a": "n", "b": "o", "c": "t"})
        for one in naive.few_terms("ab", 4):
            for other in naive.few_terms("ab", 4)[::5]:
                self.assertIs(kin_by(book, whole_rule(three_kinds()), one, other), have_like_words(book, one, other))

    def test_wrong_arguments(self):
        check_errors(self, kin_by, [stop_book(), stop_rule(), "a", "b"], [
            (InvalidBook, odd_objects()),
            (InvalidRule, odd_objects() + [stop_kinds()]),
            (InvalidTerm, NO_TERMS),
            (InvalidTerm, NO_TERMS),
        ])
        rules = [nought_rule(), whole_rule(one_kind()), Rule(stop_kinds("pvw"), [], [])]
        check_errors(self, kin_by, [stop_book(), stop_rule(), "a", "b"], [
            (InvalidBook, odd_objects()), (Unlike, rules), (InvalidTerm, NO_TERMS), (InvalidTerm, NO_TERMS),
        ])


class WrongArgumentsTest(unittest.TestCase):
    def test_books_and_terms(self):
        two = [(InvalidBook, odd_objects()), (InvalidTerm, NO_TERMS), (InvalidTerm, NO_TERMS)]
        check_errors(self, are_kin, [stop_book(), "a", "a"], two)
        check_errors(self, chain, [stop_book(), "a", "a"], two)
        check_errors(self, apart_paper, [stop_book(), "a", "b"], two)
        check_errors(self, is_chain, [stop_book(), "a", "a", None], two + [(None, [None])])
        check_errors(self, is_apart_paper, [stop_book(), "a", "b", None], two + [(None, [None])])
        check_errors(self, is_closed, [stop_book(), None], [(InvalidBook, odd_objects()), (None, [None])])
        for function in (beside, is_alone):
            check_errors(self, function, [stop_book(), "a"], two[:2])

    def test_lists_returned_are_new(self):
        one, other = term_of("a (b + c)"), term_of("a b + a c")
        for book in (stop_book(), loose_book()):
            names = dict(zip("abc", book.things())) if book == loose_book() else dict(zip("abc", "abc"))
            here, there = [self.with_names(term, names) for term in (one, other)]
            for function in (lambda: beside(book, there), lambda: apart_paper(book, here, names["a"]),
                             lambda: chain(book, here, here)):
                told = function()
                function().clear()
                self.assertEqual(function(), told)

    def with_names(self, term, names):
        return names[term] if isinstance(term, str) else (term[0],) + tuple(self.with_names(part, names) for part in term[1:])


if __name__ == "__main__":
    unittest.main()
