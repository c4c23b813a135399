"""[19] to [24]: books and terms, and [1], [2] as far as they speak of them."""

import unittest

from kindspreads.errors import InvalidBook, InvalidMap, InvalidRule, InvalidTerm, InvalidTerms, InvalidText
from kindspreads.errors import InvalidThings
from kindspreads.kinds import Kinds
from kindspreads.rules import Rule, mirrored_rule
from kindspreads.spreads import gatherings, spreads
from kindspreads.terms import Book, depth, inner_terms, is_term, kind_of, mirrored_book, mirrored_term, parts_of
from kindspreads.terms import product_of, put_in, sum_of, term_of, term_sent, text_of, with_things
from tests import naive
from tests.books import books_over, stop_book
from tests.helper import PPP, check_errors, odd_objects, one_kind, rows_over, stop_kinds, stop_rule, table

# Each but one of these has a fault in its form; the last ones have things of another book.
NO_FORMS = odd_objects() + [
    ("sum", "a"), ("product", "a"), ("product",), ("sum", "b", "a"), ("sum", "a", ("sum", "b", "c")),
    ("product", "a", ("product", "b", "c")), ["sum", "a", "b"], ["product", "a", "b"], ("sum", ["product", "a", "b"], "c"),
    ("sum", ("product", "b", "c"), "a"), ("sum", "a", ("product", "b", ("sum", "d", "c"))), ("plus", "a", "b"),
    ("a", "b"), ("a", "b", "c"), ("Sum", "a", "b"), ("sum", "a", None), ("sum", True, "a"), ("product", "a", 1),
    ("product", "a", ""), ("product", "a", "A"), ("product", "a", ("sum", "b")), ("product", "a", "b c"),
    ("sum", "a", ("product", "b")), ("sum", "a", "b", ("sum", "c", "d")), ("sum", ("a", "b", "c"), "d"),
    (("sum",), "a", "b"), {"sum": ("a", "b")}, ("sum", "c", ("product", ("sum", "a", "b"), "d")),
]
OF_OTHER_BOOKS = ["z", ("sum", "a", "z"), ("product", "a", ("sum", "b", "z")), "abcdefgh"]
NO_TERMS = NO_FORMS + OF_OTHER_BOOKS
NO_LISTS_OF_TERMS = [
    None, True, [], (), ("a",), "a", {"a": "a"}, ("sum", "a", "b"), ["a", None], ["z"], [["a"]], [("sum", "b", "a")],
    ["a", ("product", "a")], [("sum", "a", "z")], [1],
]


def two():
    return ("sum", ("product", "a", ("sum", "b", "c")), ("product", "d", ("sum", "c", "e")))


class BookTest(unittest.TestCase):
    def test_a_book_tells_what_it_is_made_of(self):
        book = Book(rule=stop_rule(), things={"b": "w", "abcdefgh": "p", "a": "p"})
        self.assertEqual(book.rule(), stop_rule())
        self.assertEqual(list(book.things().items()), [("a", "p"), ("abcdefgh", "p"), ("b", "w")])

    def test_equality(self):
        book = Book(stop_rule(), {"a": "p", "m": "w"})
        self.assertTrue(book == Book(stop_rule(), {"m": "w", "a": "p"}))
        self.assertFalse(book != Book(stop_rule(), {"m": "w", "a": "p"}))
        others = [Book(stop_rule(), {"a": "w", "m": "p"}), Book(stop_rule(), {"a": "p", "m": "w", "n": "w"})]
        others += [Book(Rule(stop_kinds(), [PPP], []), {"a": "p", "m": "w"}), stop_rule(), None, {"a": "p", "m": "w"}]
        for other in others:
            self.assertFalse(book == other)
            self.assertTrue(book != other)

    def test_wrong_arguments(self):
        wrong = [None, True, {}, [], {"a": "p"}, {"m": "w"}, {"a": "p", "m": "v"}, {"a": "p", "M": "w"},
                 {"a": "p", "m": ["w"]}, {"a": "p", "m": "w", "n": None}, {"a": "p", "m": "w", "": "w"},
                 {"a": "p", "m": "w", True: "w"}, {"a": "p", "m": "w", ("n",): "w"}, [("a", "p"), ("m", "w")],
                 {"a": "p", "ninewords": "w"}, stop_rule(), {"a": "p", "m": True}]
        check_errors(self, Book, [stop_rule(), {"a": "p", "m": "w"}], [
            (InvalidRule, odd_objects() + [stop_kinds()]),
            (InvalidThings, wrong),
        ])

    def test_what_is_passed_and_returned_may_be_changed(self):
        things = {"a": "p", "m": "w"}
        book = Book(stop_rule(), things)
        things["z"] = "p"
        book.things().clear()
        book.rule().left().clear()
        self.assertEqual(book, Book(stop_rule(), {"a": "p", "m": "w"}))
        self.assertIs(is_term(book, "z"), False)


class TermTest(unittest.TestCase):
    def test_example(self):
        book = stop_book()
        made = sum_of(book, [product_of(book, ["d", ("sum", "c", "e")]), ("product", "a", ("sum", "b", "c"))])
        self.assertEqual([made, text_of(made)], [two(), "a (b + c) + d (c + e)"])
        self.assertEqual([kind_of(book, made), kind_of(book, ("product", "m", "a"))], ["p", "w"])
        self.assertEqual(term_of("(a + d) c + a b"), ("sum", ("product", ("sum", "a", "d"), "c"), ("product", "a", "b")))
        row = ["c", ("product", "a", "b"), "a", ("sum", "a", "b")]
        self.assertEqual(sum_of(book, row), ("sum", "a", "a", ("product", "a", "b"), "b", "c"))
        row = [("sum", "a", "b"), ("product", "c", ("sum", "d", "e"))]
        self.assertEqual(product_of(book, row), ("product", ("sum", "a", "b"), "c", ("sum", "d", "e")))
        self.assertEqual(sum_of(book, ["a"]), "a")
        told = ["a", "a (b + c)", "a (b + c) + d (c + e)", "b", "b + c", "c", "c + e", "d", "d (c + e)", "e"]
        self.assertEqual([text_of(term) for term in inner_terms(book, two())], told)
        self.assertEqual([depth(book, two()), text_of(mirrored_term(book, two()))], [3, "(b + c) a + (c + e) d"])
        sent = {"a": ("product", "b", "c"), "m": ("sum", "d", "m")}
        self.assertEqual(text_of(put_in(book, ("product", "a", "m"), sent)), "b c (d + m)")
        sent = {"a": "z", "b": "y", "c": "x", "d": "a", "e": "e", "m": "m"}
        self.assertEqual(text_of(term_sent(book, two(), sent)), "a (e + x) + z (x + y)")

    def test_terms_of_a_book(self):
        book = Book(stop_rule(), {"sum": "p", "product": "p", "a": "w", "abcdefgh": "p"})
        good = ["sum", "product", "abcdefgh", ("sum", "a", "a"), ("sum", "product", "sum"), ("product", "sum", "product"),
                ("sum", ("product", ("sum", "a", "sum"), "a"), "a"), ("product", ("sum", "a", "a"), ("sum", "a", "a"))]
        for term in good:
            self.assertIs(is_term(book=book, value=term), True, term)

    def test_other_objects_are_no_terms(self):
        for value in NO_TERMS:
            self.assertIs(is_term(stop_book(), value), False, value)
        for value in NO_FORMS:
            with self.assertRaises(InvalidTerm) as caught:
                text_of(value)
            self.assertIs(caught.exception.value, value)
        self.assertEqual([text_of(value) for value in OF_OTHER_BOOKS], ["z", "a + z", "a (b + z)", "abcdefgh"])

    def test_what_looks_like_a_term_that_was_judged(self):
        book = stop_book()
        term = ("sum", ("product", "a", "b"), "c")
        alike = [["sum", ("product", "a", "b"), "c"], ("sum", ["product", "a", "b"], "c"), ("sum", ("product", "a", "b"), ["c"]), str(term), repr(term), text_of(term),
                 ("sum", ("product", "a', 'b"), "c"), ("sum", "('product', 'a', 'b')", "c"), ("sum', ('product', 'a', 'b'), 'c",), ("sum", ("product", "a", "b"), "c", True),
                 ("sum", ("product", "a", "b"), True), ("sum", ("product", "a", 1), "c"), {0: term}, (term,), ("sum", ("product", "a", "b"), "c", ())]
        for _ in range(2):
            self.assertIs(is_term(book, term), True)
            self.assertIs(is_term(book, ("sum", ("product", "a", "b"), "".join(["c"]))), True)
            for value in alike:
                self.assertIs(is_term(book, value), False, value)
                with self.assertRaises(InvalidTerm) as caught:
                    kind_of(book, value)
                self.assertIs(caught.exception.value, value)

    def test_all_terms_of_few_things(self):
        book = Book(Rule(one_kind(), [], []), {"a": "p", "b": "p"})
        texts = []
        for terms in naive.all_terms("ab", 5).values():
            for term in terms:
                self.assertIs(is_term(book, term), True, term)
                self.assertEqual(text_of(term=term), naive.text(term))
                self.assertEqual(term_of(text=text_of(term)), term)
                texts.append(text_of(term))
        self.assertEqual(len(texts), len(set(texts)))

    def test_nine_things_and_deep_brackets(self):
        long = "((b + c d) e + a) (f + g h) i"
        self.assertEqual(text_of(term_of(long)), long)
        term = "a"
        for _ in range(20):
            term = ("sum", "a", ("product", "a", term)) if isinstance(term, str) or term[0] == "sum" else term
        self.assertEqual(term_of(text_of(term)), term)
        self.assertEqual(depth(stop_book(), term), 40)

    def test_texts_one_sign_away(self):
        # One sign more, less or another makes four things of three, or words of three letters of two things.
        words = ["".join(row) for many in (1, 2, 3) for row in rows_over("ab", many)]
        known = set()
        for names, most in ((words, 2), (words[:6], 3), (words[:2], 4)):
            known |= {naive.text(term) for terms in naive.all_terms(names, most).values() for term in terms}
        for first in sorted(naive.text(term) for terms in naive.all_terms("ab", 3).values() for term in terms):
            for at in range(len(first) + 1):
                near = [first[:at] + sign + first[at:] for sign in "ab +()A\n"]
                near += [first[:at] + sign + first[at + 1:] for sign in ["", "a", "b", " ", "+", "(", ")", "-"]]
                for text in near:
                    self.check_text(text, text in known)

    def check_text(self, text, is_one):
        if is_one:
            self.assertEqual(text_of(term_of(text)), text)
            return
        with self.assertRaises(InvalidText, msg=text) as caught:
            term_of(text)
        self.assertIs(caught.exception.value, text)

    def test_other_texts(self):
        wrong = ["", " ", "a ", " a", "a  b", "a + ", "+ a", "a + + b", "(a)", "(a + b)", "(a b) c", "((a + b)) c", "a+b",
                 "b + a", "a b + a", "(b + a) c", "a (b + c", "a b + c)", ")a + b(", "ninewords", "a\nb", "a\tb", "a * b",
                 "()", "( a + b) c", "(a + b )c", "a(b + c)", "(a + b)(c + d)", "a + (b + c)", "(" * 30, ")" * 30, "a) + (b"]
        for text in wrong:
            self.check_text(text, False)
        others = [value for value in odd_objects() if not isinstance(value, str)] + [("sum", "a", "b"), ["a"]]
        check_errors(self, term_of, ["a"], [(InvalidText, others)])

    def test_parts_and_kinds(self):
        book = stop_book()
        self.assertEqual(parts_of(book=book, term="a"), [])
        self.assertEqual(parts_of(book, two()), [two()[1], two()[2]])
        self.assertEqual(parts_of(book, ("product", "b", "a", "b")), ["b", "a", "b"])
        for each in books_over({"a": "p", "b": "p", "m": "w"}):
            for term in naive.all_terms("am", 4)[4]:
                self.assertEqual(kind_of(book=each, term=term), naive.kind(each, term))
        first = Kinds(table("ab", max), table("ab", lambda x, y: x))
        book = Book(Rule(first, [], []), {"x": "a", "y": "b"})
        self.assertEqual([kind_of(book, term_of("x y y")), kind_of(book, term_of("y x")), kind_of(book, "y")], ["a", "b", "b"])
        self.assertEqual([kind_of(book, term_of("x + x")), kind_of(book, term_of("(x + y) x"))], ["a", "b"])

    def test_put_together_flat(self):
        book = Book(Rule(one_kind(), [], []), {"a": "p", "b": "p"})
        terms = [term for terms in naive.all_terms("ab", 3).values() for term in terms]
        for one in terms:
            self.assertEqual([sum_of(book, [one]), product_of(book, [one])], [one, one])
            for other in terms:
                row = [other, one]
                self.assertEqual(sum_of(book=book, terms=row), naive.flat("sum", row))
                self.assertEqual(product_of(book=book, terms=row), naive.flat("product", row))
                self.assertEqual(row, [other, one])

    def test_inner_terms_and_depth(self):
        book = stop_book()
        self.assertEqual([inner_terms(book, "a"), depth(book, "a")], [["a"], 0])
        term = term_of("a (a + a (a + b)) + a b")
        told = ["a", "a (a + a (a + b))", "a (a + a (a + b)) + a b", "a (a + b)", "a + a (a + b)", "a + b", "a b", "b"]
        self.assertEqual([text_of(each) for each in inner_terms(book=book, term=term)], sorted(told))
        self.assertEqual(depth(book=book, term=term), 5)
        for term in naive.all_terms("am", 4)[4]:
            self.assertEqual(inner_terms(book, term), sorted(naive.inner(term), key=naive.text))

    def test_wrong_arguments(self):
        for function in (parts_of, kind_of, inner_terms, depth, mirrored_term):
            check_errors(self, function, [stop_book(), "a"], [(InvalidBook, odd_objects()), (InvalidTerm, NO_TERMS)])
        for function in (sum_of, product_of):
            check_errors(self, function, [stop_book(), ["a"]], [
                (InvalidBook, odd_objects() + [stop_rule()]),
                (InvalidTerms, NO_LISTS_OF_TERMS),
            ])
        check_errors(self, is_term, [stop_book(), None], [(InvalidBook, odd_objects()), (None, [None])])
        check_errors(self, text_of, ["a"], [(InvalidTerm, NO_FORMS)])

    def test_lists_returned_are_new(self):
        book = stop_book()
        inner_terms(book, two()).clear()
        parts_of(book, two()).clear()
        self.assertEqual([len(inner_terms(book, two())), len(parts_of(book, two()))], [10, 2])


class PutInTest(unittest.TestCase):
    def test_all_put_together_flat(self):
        book = stop_book()
        cases = [
            ("a", {}, "a"), ("a", {"b": "c"}, "a"), ("a b", {"a": "b", "b": "a"}, "b a"), ("a + b", {"a": "c"}, "b + c"),
            ("a + b", {"b": "d + e", "a": "c d"}, "c d + d + e"), ("a b", {"b": "c d"}, "a c d"),
            ("a a", {"a": "a + b"}, "(a + b) (a + b)"), ("(a + b) c", {"a": "d (a + b)", "c": "b c"}, "(b + d (a + b)) b c"),
            ("a (b + m)", {"m": "m + m"}, "a (b + m + m)"), ("m", {"m": "a m"}, "a m"),
        ]
        for text, sent, told in cases:
            sent = {thing: term_of(each) for thing, each in sent.items()}
            self.assertEqual(text_of(put_in(book=book, term=term_of(text), sent=sent)), told)

    def test_the_kind_stays_and_spreads_stay_spreads(self):
        book = Book(stop_rule(), {"a": "p", "b": "p", "m": "w"})
        sent = {"a": term_of("b (a + b)"), "b": term_of("a + b"), "m": term_of("a m + b")}
        for terms in naive.all_terms("abm", 4).values():
            for term in terms:
                made = put_in(book, term, sent)
                self.assertEqual(kind_of(book, made), kind_of(book, term))
                for outcome in spreads(book, term):
                    self.assertIn(put_in(book, outcome, sent), spreads(book, made))

    def test_the_map_stays(self):
        sent = {"b": "a", "a": ("sum", "a", "b")}
        put_in(stop_book(), "a", sent)
        self.assertEqual(list(sent.items()), [("b", "a"), ("a", ("sum", "a", "b"))])

    def test_wrong_arguments(self):
        wrong = [None, True, [], "a", {"z": "a"}, {"a": "z"}, {"a": "m"}, {"m": "a"}, {"a": None}, {"a": ("sum", "b", "a")},
                 {"a": "b", "b": ("product", "a", "m")}, {True: "a"}, {("a",): "a"}, {"a": ["sum", "a", "b"]}, [("a", "b")],
                 {("sum", "a", "b"): "a"}]
        check_errors(self, put_in, [stop_book(), two(), {"a": "b"}], [
            (InvalidBook, odd_objects()),
            (InvalidTerm, NO_TERMS),
            (InvalidMap, wrong),
        ])


class MirroredTest(unittest.TestCase):
    def test_the_book(self):
        for book in books_over({"a": "p", "m": "w"}):
            turned = mirrored_book(book=book)
            self.assertEqual([turned.rule(), turned.things()], [mirrored_rule(book.rule()), book.things()])
            self.assertEqual(mirrored_book(turned), book)
        check_errors(self, mirrored_book, [stop_book()], [(InvalidBook, odd_objects())])

    def test_spreads_and_gatherings_are_turned_about(self):
        for book in books_over({"a": "p", "m": "w"}):
            turned = mirrored_book(book)
            for terms in naive.all_terms("am", 4).values():
                for term in terms:
                    image = mirrored_term(book=book, term=term)
                    self.assertEqual(mirrored_term(turned, image), term)
                    for function in (spreads, gatherings):
                        sent = {text_of(mirrored_term(book, each)) for each in function(book, term)}
                        self.assertEqual([text_of(each) for each in function(turned, image)], sorted(sent))

    def test_summands_are_put_in_order_anew(self):
        self.assertEqual(text_of(mirrored_term(stop_book(), term_of("a d + b c"))), "c b + d a")
        self.assertEqual(text_of(mirrored_term(stop_book(), term_of("a (b d + c a) e"))), "e (a c + d b) a")


class SentTest(unittest.TestCase):
    def test_with_things(self):
        book = Book(stop_rule(), {"a": "p", "b": "p", "m": "w"})
        sent = {"a": "m", "b": "a", "m": "other"}
        other = with_things(book=book, sent=sent)
        self.assertEqual(list(other.things().items()), [("a", "p"), ("m", "p"), ("other", "w")])
        self.assertEqual(other.rule(), book.rule())
        self.assertEqual(sent, {"a": "m", "b": "a", "m": "other"})
        back = {"m": "a", "a": "b", "other": "m"}
        self.assertEqual(with_things(other, back), book)
        for term in naive.all_terms("abm", 3)[3]:
            made = term_sent(book=book, term=term, sent=sent)
            self.assertIs(is_term(other, made), True)
            self.assertEqual([term_sent(other, made, back), kind_of(other, made)], [term, kind_of(book, term)])

    def test_wrong_arguments(self):
        book = Book(stop_rule(), {"a": "p", "m": "w"})
        wrong = [None, True, {}, {"a": "x"}, {"a": "x", "m": "x"}, {"a": "x", "m": "Y"}, {"a": "x", "m": "y", "z": "z"},
                 {"a": "x", "m": None}, {"a": "x", "m": ["y"]}, {"a": "x", "b": "y"}, [("a", "x"), ("m", "y")], ["x", "y"]]
        good = {"a": "x", "m": "y"}
        check_errors(self, with_things, [book, good], [(InvalidBook, odd_objects()), (InvalidMap, wrong)])
        check_errors(self, term_sent, [book, "a", good], [
            (InvalidBook, odd_objects()),
            (InvalidTerm, NO_TERMS),
            (InvalidMap, wrong),
        ])


if __name__ == "__main__":
    unittest.main()
