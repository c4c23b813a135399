"""[106], [107]: texts, and [1] to [4] as far as they speak of them."""

import unittest

from kindspreads.errors import InvalidBook, InvalidRule, InvalidTerms, InvalidText, InvalidTriples
from kindspreads.kinds import Kinds
from kindspreads.papers import book_text, chain_text, read_book, read_chain, read_rule, read_triples, rule_text, triples_text
from kindspreads.rules import Rule, mirrored_rule, whole_rule
from kindspreads.terms import Book, term_of
from tests import naive
from tests.books import books_over, stop_book
from tests.helper import check_errors, odd_objects, one_kind, stop_kinds, stop_rule, table, three_kinds
from tests.test_folding import rules
from tests.test_fulls import loose_book
from tests.test_terms import NO_FORMS

HEADS = ("plus", "times", "left", "right", "things")
BENT = [lambda text: text + "\n", lambda text: "\n" + text, lambda text: text + " ", lambda text: " " + text, lambda text: text.replace(" ", "  ", 1),
        lambda text: text.replace("\n", "\n\n", 1), lambda text: text.replace("\n", "\n ", 1), lambda text: text.replace("\n", " \n", 1), lambda text: text.upper(),
        lambda text: text.replace(" ", chr(9), 1), lambda text: text + "\n" + text, lambda text: text[1:], lambda text: text.replace("\n", "\r\n")]


def named_rule():
    """A rule whose kinds are called as the heads of texts are."""
    return whole_rule(Kinds(table(["left", "plus", "times"], max), table(["left", "plus", "times"], min)))


def lines_of_rule(rule):
    rows = ["plus"] + [f"{one} {other} = {rule.kinds().plus()[one, other]}" for one, other in sorted(rule.kinds().plus())]
    rows += ["times"] + [f"{one} {other} = {rule.kinds().times()[one, other]}" for one, other in sorted(rule.kinds().times())]
    return rows + ["left"] + [f"{a} {b} {c}" for a, b, c in rule.left()] + ["right"] + [f"{a} {b} {c}" for a, b, c in rule.right()]


class RuleTextTest(unittest.TestCase):
    def test_example(self):
        one = Kinds({("k", "k"): "k"}, {("k", "k"): "k"})
        rule = Rule(one, [("k", "k", "k")], [])
        self.assertEqual(rule_text(rule), "plus\nk k = k\ntimes\nk k = k\nleft\nk k k\nright")
        self.assertEqual(book_text(Book(rule, {"x": "k"})), rule_text(rule) + "\nthings\nx k")
        self.assertEqual(read_rule(rule_text(rule)), rule)

    def test_rules_there_and_back(self):
        for rule in rules() + [named_rule(), mirrored_rule(stop_rule())]:
            text = rule_text(rule=rule)
            self.assertEqual(text, "\n".join(lines_of_rule(rule)))
            self.assertEqual(read_rule(text=text), rule)
            for bend in BENT:
                self.check_wrong(read_rule, bend(text))
            self.check_lines(read_rule, text)

    def test_books_there_and_back(self):
        books = books_over({"m": "w", "a": "p", "b": "p"}) + [loose_book(), Book(named_rule(), {"things": "left", "plus": "plus", "x": "times"})]
        for book in books:
            text = book_text(book=book)
            self.assertEqual(text, "\n".join(lines_of_rule(book.rule()) + ["things"] + [f"{thing} {book.things()[thing]}" for thing in sorted(book.things())]))
            self.assertEqual(read_book(text=text), book)
            self.check_wrong(read_rule, text)
            self.check_wrong(read_book, rule_text(book.rule()))
            for bend in BENT:
                self.check_wrong(read_book, bend(text))
            self.check_lines(read_book, text)

    def check_lines(self, reader, text):
        """Without a line, or with one twice, or with two exchanged, a text is none, or one of another rule or book."""
        rows = text.split("\n")
        for at in range(len(rows)):
            for bent in (rows[:at] + rows[at + 1:], rows[:at + 1] + rows[at:], rows[:at] + rows[at:at + 2][::-1] + rows[at + 2:]):
                again = "\n".join(bent)
                try:
                    other = reader(again)
                except InvalidText as error:
                    self.assertIs(error.value, again)
                else:
                    self.assertEqual(again, rule_text(other) if reader is read_rule else book_text(other))

    def check_wrong(self, reader, text):
        with self.assertRaises(InvalidText, msg=text) as caught:
            reader(text)
        self.assertIs(caught.exception.value, text)

    def test_texts_of_what_is_no_rule_and_no_book(self):
        text = rule_text(stop_rule())
        wrong = ["", "plus", "plus\ntimes\nleft\nright", text.replace("= p", "= z"), text.replace("w p = w", "w p = p"), text.replace("left", "lift"), text + "\nw p p",
                 text.replace("p p p\nright", "p p w\nright"), text.replace("right", "things"), text.replace("=", "-"), text.replace(" = ", " "), text + "\nthings\na p",
                 text.replace("plus\n", ""), text.replace("left", "").replace("right", "left"), text.replace("p p = p", "p p = p p")]
        for each in wrong:
            self.check_wrong(read_rule, each)
        book = book_text(stop_book())
        wrong = [book.replace("m w", "m p"), book.replace("a p", "a z"), book.replace("a p\nb p", "b p\na p"), book.replace("a p", "a p p"), book.replace("a p", "ninewords p"),
                 book.replace("a p", "a p\na p"), book.replace("a p", "a p\na w"), book + "\nn", book + "\nn p q", text + "\nthings", book.replace("a p", "A p")]
        for each in wrong + [""]:
            self.check_wrong(read_book, each)

    def test_wrong_arguments(self):
        objects = odd_objects() + [["plus"], stop_rule(), b"plus"]
        for reader in (read_rule, read_book):
            check_errors(self, reader, [rule_text(stop_rule()) if reader is read_rule else book_text(stop_book())], [(InvalidText, objects)])
        check_errors(self, rule_text, [stop_rule()], [(InvalidRule, odd_objects() + [stop_kinds(), stop_book()])])
        check_errors(self, book_text, [stop_book()], [(InvalidBook, odd_objects() + [stop_rule()])])


class ChainTextTest(unittest.TestCase):
    def test_example(self):
        first = ("sum", ("product", ("sum", "a", "d"), "c"), ("product", "a", "b"))
        self.assertEqual(read_chain("(a + d) c + a b\na"), [first, "a"])
        self.assertEqual([chain_text(["a", ("sum", "a", "b")]), read_chain(""), chain_text([])], ["a\na + b", [], ""])

    def test_there_and_back(self):
        terms = naive.few_terms("am", 4)
        for chain in [terms[at:at + 7] for at in range(0, len(terms), 50)] + [["a", "a"], [term_of("a (b + c)")]]:
            text = chain_text(terms=chain)
            self.assertEqual(text.split("\n"), [naive.text(term) for term in chain])
            self.assertEqual(read_chain(text=text), chain)
            read_chain(text).clear()
            self.assertEqual(read_chain(text), chain)

    def test_wrong_texts_and_terms(self):
        for text in ["\n", "a\n", "\na", "a\n\na", " a", "a ", "a  b", "b + a", "(a)", "(a + b)", "a +", "a\nb + a", "A", "a b +  c", "a" + chr(9), "a\r\nb", "a + b)", "1"]:
            with self.assertRaises(InvalidText) as caught:
                read_chain(text)
            self.assertIs(caught.exception.value, text)
        check_errors(self, read_chain, [""], [(InvalidText, [value for value in odd_objects() if value not in ("", "a b")] + [["a"]])])
        wrong = [("a",), "a", None, {"a": "a"}, ["a", None]] + [[value] for value in NO_FORMS] + [["a", value] for value in NO_FORMS]
        check_errors(self, chain_text, [[]], [(InvalidTerms, [value for value in odd_objects() if value not in ([], ["p"])] + wrong)])


class TriplesTextTest(unittest.TestCase):
    def test_example(self):
        self.assertEqual(triples_text([("k", "k", "k")]), "k k k")
        self.assertEqual([read_triples("k k n\nk n k"), read_triples(""), triples_text([])], [[("k", "k", "n"), ("k", "n", "k")], [], ""])

    def test_there_and_back(self):
        rows = [whole_rule(three_kinds()).left(), whole_rule(one_kind()).right(), [("b", "a", "b"), ("a", "a", "a"), ("b", "a", "b")], [("sum", "plus", "abcdefgh")]]
        for triples in rows:
            text = triples_text(triples=triples)
            self.assertEqual(text, "\n".join(" ".join(triple) for triple in triples))
            self.assertEqual(read_triples(text=text), triples)
            read_triples(text).clear()
            self.assertEqual(read_triples(text), triples)

    def test_wrong_texts_and_triples(self):
        for text in ["\n", "a b c\n", "\na b c", "a b", "a b c d", "a  b c", " a b c", "a b c ", "a b C", "a b ninewords", "a b 1", "a b c\n\na b c", "a b c\na b", "a" + chr(9) + "b c"]:
            with self.assertRaises(InvalidText) as caught:
                read_triples(text)
            self.assertIs(caught.exception.value, text)
        check_errors(self, read_triples, [""], [(InvalidText, [value for value in odd_objects() if value != ""])])
        wrong = [(("a", "b", "c"),), [["a", "b", "c"]], [("a", "b")], [("a", "b", "c", "d")], [("a", "b", "C")], [("a", "b", None)], [("a", "b", "")], ["abc"], [("a", "b", "ninewords")]]
        wrong += [[("a", "b", "c"), None], [("a", "b", ["c"])], [(True, "a", "b")], {("a", "b", "c"): 0}, "a b c"]
        check_errors(self, triples_text, [[]], [(InvalidTriples, [value for value in odd_objects() if value != []] + wrong)])


if __name__ == "__main__":
    unittest.main()
