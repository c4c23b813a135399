"""[29] to [33]: spreads and gatherings, and [1], [2] as far as they speak of them."""

import unittest

from kindspreads.errors import InvalidBook, InvalidTerm
from kindspreads.kinds import Kinds
from kindspreads.rules import Rule, turned, whole_rule
from kindspreads.spreads import cases, cases_of, copied, gatherings, is_gathering, is_spread, lacking, many_things
from kindspreads.spreads import spreads
from kindspreads.terms import Book, is_term, kind_of, term_of, text_of
from tests import naive
from tests.books import books_over, stop_book
from tests.helper import PPP, check_errors, odd_objects, one_kind, stop_kinds, table, three_kinds
from tests.test_terms import NO_TERMS

EVERYWHERE = Book(whole_rule(one_kind()), {thing: "p" for thing in "abcdefghi"})


def texts(terms):
    return [text_of(term) for term in terms]


def three_book():
    """Three kinds, with triples of both sides; only t times t makes what is not n."""
    kinds = Kinds(table("not", lambda x, y: "n"), table("not", lambda x, y: "o" if x + y == "tt" else "n"))
    left = [("n", "o", "t"), ("n", "t", "o"), ("o", "o", "o"), ("t", "t", "t")]
    right = [("n", "n", "t"), ("o", "t", "t"), ("t", "o", "t")]
    return Book(Rule(kinds, left, right), {"a": "t", "b": "o", "c": "n"})


def books():
    """Pairs of a book and few things of it by which terms are made."""
    things = {"a": "p", "m": "w"}
    told = [(book, "am") for book in books_over(things)]
    told += [(Book(Rule(stop_kinds(), [("w", "p", "p")], [("p", "p", "w")]), things), "am")]
    told += [(three_book(), "ab"), (three_book(), "ac")]
    return told + [(Book(whole_rule(three_kinds()), {"a": "n", "b": "o", "c": "t"}), "bc")]


def terms_up_to(names, most):
    return [term for terms in naive.all_terms(names, most).values() for term in terms]


class SpreadsTest(unittest.TestCase):
    def test_example(self):
        book = Book(Rule(stop_kinds(), [PPP], [PPP]), {"a": "p", "b": "p", "c": "p", "d": "p", "m": "w"})
        pairs = ("product", ("sum", "a", "b"), ("sum", "c", "d"))
        told = ["(a + b) c + (a + b) d", "a (c + d) + b (c + d)"]
        self.assertEqual([texts(spreads(book, pairs)), cases(book, pairs)], [told, [("left", PPP), ("right", PPP)]])
        self.assertEqual(cases_of(book, pairs, spreads(book, pairs)[0]), [("left", PPP)])
        self.assertEqual(texts(gatherings(book, term_of("a b + a c + d c"))), ["(a + d) c + a b", "a (b + c) + d c"])
        self.assertEqual(texts(gatherings(book, term_of("a b + a b c"))), ["a (b + b c)"])
        self.assertEqual([many_things(book, pairs), copied(book, pairs, spreads(book, pairs)[0])], [4, 2])
        self.assertEqual(texts(spreads(book, term_of("a (b + b + c)"))), ["a (b + b) + a c", "a (b + c) + a b"])
        self.assertEqual(spreads(book, term_of("a (b + m)")), [])
        self.assertEqual(lacking(book, term_of("a (b + m)")), [("left", ("p", "p", "w")), ("left", ("p", "w", "p"))])
        self.assertEqual(texts(spreads(book, term_of("m a (b + c)"))), ["m (a b + a c)"])

    def test_all_terms_of_few_things_as_the_document_says(self):
        for book, names in books():
            for term in terms_up_to(names, 5 if names == "am" else 4):
                self.assertEqual(spreads(book=book, term=term), naive.outcomes(book, term), (term, book.rule().left()))

    def test_spreads_within_sums_and_products_at_several_depths(self):
        book = stop_book()
        term = term_of("m (a + b (m + m a (c + d)))")
        self.assertEqual(texts(spreads(book, term)), ["m (a + b (m + m (a c + a d)))"])
        term = term_of("a (b + c (d + e)) + m")
        self.assertEqual(texts(spreads(book, term)), ["a (b + c d + c e) + m", "a b + a c (d + e) + m"])

    def test_what_comes_is_put_together_flat(self):
        told = [
            ("a b (c + d)", ["a (b c + b d)", "a b c + a b d"]),
            ("(a + b) c d", ["(a c + b c) d", "a c d + b c d"]),
            ("a (b c + d)", ["a b c + a d"]),
            ("a (b + c) + e", ["a b + a c + e"]),
            ("a (b + c) d", ["(a b + a c) d", "a (b d + c d)"]),
            ("a (b + c + d)", ["a (b + c) + a d", "a (b + d) + a c", "a (c + d) + a b"]),
        ]
        for text, outcomes in told:
            self.assertEqual(texts(spreads(stop_book(), term_of(text))), outcomes)

    def test_a_thing_and_what_has_no_products_of_sums_have_none(self):
        for text in ("a", "a + b", "a b c", "a b + c d"):
            self.assertEqual(spreads(EVERYWHERE, term_of(text)), [])
            self.assertEqual(cases(EVERYWHERE, term_of(text)), [])
            self.assertEqual(lacking(EVERYWHERE, term_of(text)), [])

    def test_nine_things(self):
        term = term_of("a (b + c + d + e + f + g + h + i)")
        self.assertEqual(len(spreads(EVERYWHERE, term)), 127)
        self.assertEqual(len(spreads(EVERYWHERE, term_of("a b (c + d + e + f + g + h + i)"))), 2 * 63)
        self.assertEqual(len(spreads(EVERYWHERE, term_of("(a + b + c + d + e) (f + g + h + i)"))), 15 + 7)
        same = term_of("a (b + b + b + b + b + b + b + b)")
        self.assertEqual(len(spreads(EVERYWHERE, same)), 4)

    def test_terms_of_many_words(self):
        nine, three = "(a + b + c + d + e + f + g + h + i)", "(a + b + c)"
        term = term_of(nine + " " + three)
        self.assertEqual(len(spreads(EVERYWHERE, term)), 255 + 3)
        flat = term_of(" + ".join(sorted(x + " " + y for x in "abcdef" for y in "abcde")))
        self.assertEqual(spreads(EVERYWHERE, flat), [])
        self.assertEqual(len(gatherings(EVERYWHERE, flat)), 6 * 10 + 5 * 15)
        for each in gatherings(EVERYWHERE, flat)[:5]:
            self.assertEqual(is_spread(EVERYWHERE, each, flat), True)

    def test_without_triples_and_with_all(self):
        none = Book(Rule(stop_kinds(), [], []), {"a": "p", "m": "w"})
        for term in terms_up_to("am", 4):
            self.assertEqual([spreads(none, term), gatherings(none, term), cases(none, term)], [[], [], []])
            self.assertEqual(lacking(Book(whole_rule(stop_kinds()), {"a": "p", "m": "w"}), term), [])

    def test_kind_and_things(self):
        for book, names in books():
            for term in terms_up_to(names, 4):
                for outcome in spreads(book, term):
                    self.assertEqual(kind_of(book, outcome), kind_of(book, term))
                    self.assertIs(is_term(book, outcome), True)


class GatheringsTest(unittest.TestCase):
    def test_the_contrary_of_spreads_of_all_terms_of_few_things(self):
        for book, names in books():
            most = 5 if names == "am" else 4
            sources = {}
            for term in terms_up_to(names, most):
                for outcome in naive.outcomes(book, term):
                    sources.setdefault(outcome, []).append(term)
            for term in terms_up_to(names, most):
                told = sorted(sources.get(term, []), key=naive.text)
                self.assertEqual(gatherings(book=book, term=term), told, (term, book.rule().left()))

    def test_each_leads_back(self):
        for book, names in books():
            for term in terms_up_to(names, 4):
                for outcome in spreads(book, term):
                    self.assertIn(term, gatherings(book, outcome))
                    for gathered in gatherings(book, outcome):
                        self.assertIn(outcome, spreads(book, gathered))

    def test_lots_that_are_sums(self):
        book = stop_book()
        self.assertEqual(texts(gatherings(book, term_of("a (b + c) + a (d + e)"))), ["a (b + c + d + e)"])
        self.assertEqual(texts(gatherings(book, term_of("a (b + c) + a d e"))), ["a (b + c + d e)"])
        self.assertEqual(texts(gatherings(book, term_of("a b (c + d) + a b e"))), ["a (b (c + d) + b e)", "a b (c + d + e)"])
        self.assertEqual(texts(gatherings(book, term_of("a (b + c) d + a e d"))), ["(a (b + c) + a e) d", "a ((b + c) d + e d)"])
        self.assertEqual(texts(gatherings(book, term_of("m (a b + a c) d"))), ["m a (b + c) d"])
        self.assertEqual(texts(gatherings(book, term_of("a b + a b"))), ["(a + a) b", "a (b + b)"])

    def test_of_each_something_must_be_left(self):
        for text in ("a + a b", "a + a", "a b c + d e", "a", "a b", "(a + b) (a + b)", "a b + c a"):
            self.assertEqual(gatherings(EVERYWHERE, term_of(text)), [])

    def test_kinds_must_fit(self):
        book = stop_book()
        self.assertEqual(gatherings(book, term_of("a b + a m")), [])
        self.assertEqual(gatherings(book, term_of("a m + b m")), [])
        left = books_over({"a": "p", "b": "p", "m": "w"})[1]
        self.assertEqual(texts(gatherings(left, term_of("a a + a b + b b"))), ["a (a + b) + b b"])


class CopiedTest(unittest.TestCase):
    def test_the_things_of_the_block(self):
        self.assertEqual([many_things(EVERYWHERE, "a"), many_things(book=EVERYWHERE, term=term_of("a + a (a + b)"))], [1, 4])
        for book, names in books():
            for term in terms_up_to(names, 4):
                self.assertEqual(many_things(book, term), len(naive.things(term)))
                for _, outcome, many in naive.single_spreads(book, term):
                    self.assertEqual(copied(book=book, term=term, outcome=outcome), many)

    def test_wrong_outcomes(self):
        term = term_of("a (b + c)")
        wrong = NO_TERMS + ["a", term, term_of("a b + a d"), term_of("b a + c a")]
        for function in (copied, cases_of):
            check_errors(self, function, [stop_book(), term, term_of("a b + a c")], [
                (InvalidBook, odd_objects()),
                (InvalidTerm, NO_TERMS),
                (InvalidTerm, wrong),
            ])
            with self.assertRaises(InvalidTerm):
                function(stop_book(), "a", "a")


class JudgesTest(unittest.TestCase):
    def test_just_the_outcomes(self):
        for book, names in books()[:3]:
            few = terms_up_to(names, 4)
            for term in few[::7]:
                after, before = spreads(book, term), gatherings(book, term)
                for value in few:
                    self.assertIs(is_spread(book=book, term=term, value=value), value in after)
                    self.assertIs(is_gathering(book=book, term=term, value=value), value in before)
                self.assertTrue(all([is_spread(book, term, value) for value in after]))
                self.assertTrue(all([is_gathering(book, term, value) for value in before]))

    def test_other_objects(self):
        term = term_of("a (b + c) + d b")
        for value in NO_TERMS + [term, list(spreads(stop_book(), term)[0]), spreads(stop_book(), term)]:
            self.assertIs(is_spread(stop_book(), term, value), False)
            self.assertIs(is_gathering(stop_book(), term, value), False)


class CasesTest(unittest.TestCase):
    def test_as_the_document_says(self):
        for book, names in books():
            for term in terms_up_to(names, 4):
                told, by_outcome = set(), {}
                for (word, triple), outcome, _ in naive.single_spreads(book, term):
                    both = {(word, triple), (word, turned(word, triple))}
                    told |= both
                    by_outcome[outcome] = by_outcome.get(outcome, set()) | both
                self.assertEqual(cases(book=book, term=term), sorted(told))
                for outcome, found in by_outcome.items():
                    self.assertEqual(cases_of(book=book, term=term, outcome=outcome), sorted(found))

    def test_lots_in_either_order(self):
        book = books_over({"a": "p", "m": "w"})[4]
        self.assertEqual(cases(book, term_of("a (a + m)")), [("left", ("p", "p", "w")), ("left", ("p", "w", "p"))])
        self.assertEqual(cases(book, term_of("(a + m) a")), [("right", ("p", "w", "p")), ("right", ("w", "p", "p"))])

    def test_lacking(self):
        for book, names in books():
            for term in terms_up_to(names, 4):
                told = set()
                for each in naive.inner(term):
                    if naive.is_product(each):
                        for case, _, _ in naive.tries_at(book, each[1:]):
                            told |= set() if naive.is_in_rule(book, case) else {case, (case[0], turned(*case))}
                self.assertEqual(lacking(book=book, term=term), sorted(told))
                if not lacking(book, term) and not cases(book, term):
                    self.assertEqual(spreads(book, term), [])

    def test_lacking_tells_kinds_that_the_tables_do_not_let(self):
        last = Kinds(table("ab", lambda x, y: "b"), table("ab", lambda x, y: x))
        book = Book(whole_rule(last), {"x": "a", "y": "b"})
        self.assertEqual(lacking(book, term_of("x (x + y)")), [("left", ("a", "a", "b")), ("left", ("a", "b", "a"))])
        self.assertEqual(lacking(book, term_of("y (x + y)")), [])


class WrongArgumentsTest(unittest.TestCase):
    def test_books_and_terms(self):
        for function in (spreads, gatherings, many_things, cases, lacking):
            check_errors(self, function, [stop_book(), "a"], [(InvalidBook, odd_objects()), (InvalidTerm, NO_TERMS)])
        for function in (is_spread, is_gathering):
            check_errors(self, function, [stop_book(), "a", None], [
                (InvalidBook, odd_objects()),
                (InvalidTerm, NO_TERMS),
                (None, [None]),
            ])

    def test_lists_returned_are_new(self):
        term = term_of("a (b + c) + a b")
        for function in (spreads, gatherings, cases, lacking):
            book = EVERYWHERE if function is not lacking else Book(Rule(one_kind(), [], []), EVERYWHERE.things())
            told = function(book, term)
            function(book, term).clear()
            self.assertTrue(told)
            self.assertEqual(function(book, term), told)


if __name__ == "__main__":
    unittest.main()
