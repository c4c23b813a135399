"""[59] to [64]: classes, and [1] to [4] as far as they speak of them."""

import unittest

from kindspreads.classes import by_things, class_at, class_of, class_place, class_size, farthest, fewest_steps, fewest_things
from kindspreads.classes import is_shortest_chain, linking, parted, shortest_chain
from kindspreads.errors import Apart, InvalidBook, InvalidCount, InvalidRule, InvalidTerm, Refused, Unlike
from kindspreads.kin import are_kin, is_chain, kin_by
from kindspreads.kinds import Kinds, can_be_left, can_be_right
from kindspreads.rules import Rule, rule_with, rule_without, turned, whole_rule
from kindspreads.shapes import is_settled
from kindspreads.spreads import many_things
from kindspreads.terms import Book, term_of
from tests import naive
from tests.books import books_over, stop_book
from tests.helper import PPP, check_errors, odd_objects, one_kind, stop_kinds, stop_rule, table, three_kinds
from tests.test_fulls import books, loose_book
from tests.test_shapes import nought_rule
from tests.test_terms import NO_TERMS

EVERYWHERE = Book(whole_rule(one_kind()), {thing: "p" for thing in "abcdefghi"})


def sample():
    """Tuples of a book, its classes of few terms, and some of these terms."""
    for book, names in books():
        classes = naive.classes(book, naive.few_terms(names, 5))
        yield book, classes, list(classes)[::9]


def step_numbers(book, kin, term):
    """The least numbers of steps from a term to all of its kin."""
    after = {each: naive.outcomes(book, each) for each in kin}
    steps, ahead = {term: 0}, [term]
    while ahead:
        there = ahead.pop(0)
        for other in kin:
            if other not in steps and (other in after[there] or there in after[other]):
                steps[other] = steps[there] + 1
                ahead.append(other)
    return steps


class ClassTest(unittest.TestCase):
    def test_example(self):
        kinds = stop_kinds()
        book = Book(Rule(kinds, [PPP], [PPP]), {"a": "p", "b": "p", "c": "p", "d": "p", "e": "p", "m": "w"})
        two, first = term_of("(a + b) (c + d)"), term_of("a (b + c) + d (c + e)")
        self.assertEqual([class_size(book, two), by_things(book, two)], [8, {4: 1, 6: 2, 7: 4, 8: 1}])
        self.assertEqual(class_at(book, two, 0), two)
        self.assertEqual([class_place(book, two, term_of("a c + a d + b c + b d")), farthest(book, two)], [7, 3])
        self.assertEqual([class_size(book, first), fewest_things(book, first)], [5, [first]])
        self.assertEqual(fewest_steps(book, first, term_of("(a + d) c + a b + d e")), 3)
        self.assertEqual([len(some) for some in parted(book, two, Rule(kinds, [PPP], []))], [2, 1, 1, 4])
        self.assertEqual(class_of(book, term_of("m (a + b)")), [term_of("m (a + b)")])
        self.assertIs(is_shortest_chain(book, two, two, [two]), True)

    def test_all_kin_of_few_things(self):
        for book, classes, terms in sample():
            for term in terms:
                kin = classes[term]
                self.assertEqual(class_of(book=book, term=term), kin)
                self.assertEqual(class_size(book=book, term=term), len(kin))
                sizes = [many_things(book, each) for each in kin]
                told = by_things(book=book, term=term)
                self.assertEqual(list(told.items()), [(size, sizes.count(size)) for size in sorted(set(sizes))])
                if is_settled(book.rule()):
                    self.assertEqual(told[max(sizes)], 1)
                self.assertEqual(fewest_things(book=book, term=term), [each for each in kin if many_things(book, each) == min(sizes)])

    def test_several_terms_with_the_most_things(self):
        # Four summands, each of the kind "b", spread in two lots of two alone, of which there are three.
        odd = Kinds(table("ab", lambda x, y: "a" if x == y else "b"), table("ab", lambda x, y: "a"))
        book = Book(Rule(odd, [("b", "a", "a")], []), {"x": "a", "y": "b", "z": "b", "u": "b", "v": "b"})
        self.assertEqual(by_things(book, term_of("y (u + v + y + z)")), {5: 1, 6: 3})

    def test_positions(self):
        for book, classes, terms in sample():
            for term in terms[::4]:
                for place, other in enumerate(classes[term]):
                    self.assertEqual(class_at(book=book, term=term, number=place), other)
                    self.assertEqual(class_place(book=book, one=term, other=other), place)

    def test_a_thing_alone_and_terms_without_kin(self):
        for term in ("a", term_of("m (a + b)"), term_of("a + b"), term_of("a b c")):
            self.assertEqual([class_of(stop_book(), term), class_size(stop_book(), term), farthest(stop_book(), term)], [[term], 1, 0])
            self.assertEqual([fewest_things(stop_book(), term), fewest_steps(stop_book(), term, term)], [[term], 0])
            self.assertEqual(parted(stop_book(), term, Rule(stop_kinds(), [], [])), [[term]])

    def test_small_terms_of_twelve_things(self):
        for text, many in (("a a + a b + a c + a d + a e + a f", 203), ("a b c d e f + a b c d e f", 21), ("a b + a b + a b + a b + a b + a b", 34)):
            self.assertEqual(class_size(EVERYWHERE, term_of(text)), many)

    def test_like_rules_tell_alike_whatever_was_asked_before(self):
        book, again = stop_book(), stop_book()
        term = term_of("a (b + c) d")
        for each in class_of(book, term):
            self.assertEqual(class_of(book, each), class_of(again, term))


class StepsTest(unittest.TestCase):
    def test_steps_to_all_kin(self):
        for book, classes, terms in sample():
            for term in terms[::2]:
                steps = step_numbers(book, classes[term], term)
                self.assertEqual(farthest(book=book, term=term), max(steps.values()))
                for other in classes[term]:
                    self.assertEqual(fewest_steps(book=book, one=term, other=other), steps[other])
                    way = shortest_chain(book=book, one=term, other=other)
                    self.assertEqual(len(way), steps[other] + 1)
                    self.check_shortest(book, term, other, way)

    def check_shortest(self, book, one, other, way):
        self.assertIs(is_chain(book, one, other, way), True)
        self.assertIs(is_shortest_chain(book=book, one=one, other=other, value=way), True)
        for wrong in (way[:-1], way + way[-1:], tuple(way), way[::-1] if len(way) > 1 else [], way + way[-2:-1] + way[-1:]):
            self.assertIs(is_shortest_chain(book, one, other, wrong), False)

    def test_terms_that_are_apart(self):
        one, other = term_of("m (a + b)"), term_of("m a + m b")
        self.assertEqual([fewest_steps(stop_book(), one, other), shortest_chain(stop_book(), one, other)], [None, None])
        for value in (None, [one, other], [one], [], [other]):
            self.assertIs(is_shortest_chain(stop_book(), one, other, value), False)

    def test_longer_chains_are_none(self):
        one, full = term_of("a (b + c)"), term_of("a b + a c")
        self.assertIs(is_shortest_chain(stop_book(), one, full, [one, full]), True)
        self.assertIs(is_shortest_chain(stop_book(), one, full, [one, full, one, full]), False)
        for value in odd_objects() + NO_TERMS + [[value] for value in NO_TERMS]:
            self.assertIs(is_shortest_chain(stop_book(), one, full, value), False)


class PartedTest(unittest.TestCase):
    def test_classes_by_lesser_rules(self):
        things = {"a": "p", "m": "w"}
        whole = books_over(things)[4]
        lesser = [each.rule() for each in books_over(things)]
        lesser += [rule_without(whole.rule(), sorted({triple, turned("left", triple)}), []) for triple in can_be_left(stop_kinds())[:4]]
        terms = naive.few_terms("am", 5)
        classes = naive.classes(whole, terms)
        for rule in lesser:
            told = naive.classes(Book(rule, things), terms)
            for term in terms[::29]:
                firsts = sorted({told[each][0] for each in classes[term]}, key=naive.text)
                self.assertEqual(parted(book=whole, term=term, rule=rule), [told[first] for first in firsts])
                self.assertEqual(sum(map(len, parted(whole, term, rule))), class_size(whole, term))

    def test_by_the_rule_itself_and_without_triples(self):
        term = term_of("(a + b) (c + d)")
        self.assertEqual(parted(stop_book(), term, stop_rule()), [class_of(stop_book(), term)])
        self.assertEqual(parted(stop_book(), term, Rule(stop_kinds(), [], [])), [[each] for each in class_of(stop_book(), term)])

    def test_wrong_arguments(self):
        good = [stop_book(), "a", stop_rule()]
        head = [(InvalidBook, odd_objects()), (InvalidTerm, NO_TERMS)]
        check_errors(self, parted, good, head + [(InvalidRule, odd_objects() + [stop_kinds()])])
        greater = [whole_rule(stop_kinds()), nought_rule(), Rule(stop_kinds(), [("w", "w", "w")], []), whole_rule(one_kind())]
        greater += [Rule(stop_kinds("pvw"), [], []), Rule(stop_kinds(), [], [("w", "w", "w")])]
        check_errors(self, parted, good, head + [(Unlike, greater)])


class LinkingTest(unittest.TestCase):
    def test_each_triple_tried(self):
        for book, classes, terms in sample():
            rule = book.rule()
            cases = [("left", triple) for triple in can_be_left(rule.kinds()) if triple not in rule.left() and triple <= turned("left", triple)]
            cases += [("right", triple) for triple in can_be_right(rule.kinds()) if triple not in rule.right() and triple <= turned("right", triple)]
            whole = Book(whole_rule(rule.kinds()), book.things())
            for one in terms[::4]:
                for other in class_of(whole, one)[::3] + terms[:4]:
                    if other not in classes[one]:
                        told = [case for case in cases if self.are_linked(book, case, one, other)]
                        self.assertEqual(linking(book=book, one=one, other=other), told)

    def are_linked(self, book, case, one, other):
        word, triple = case
        both = sorted({triple, turned(word, triple)})
        more = rule_with(book.rule(), both if word == "left" else [], both if word == "right" else [])
        return kin_by(book, more, one, other)

    def test_one_triple_that_lacks(self):
        one, other = term_of("m (a + b)"), term_of("m a + m b")
        self.assertEqual(linking(stop_book(), one, other), [("left", ("w", "p", "p"))])
        self.assertEqual(linking(stop_book(), term_of("(a + m) b"), term_of("a b + m b")), [("right", ("p", "w", "p"))])
        self.assertEqual(linking(stop_book(), one, term_of("m a + m c")), [])
        self.assertEqual(linking(EVERYWHERE, "a", "b"), [])
        three = Book(Rule(three_kinds(), [], []), {"a": "n", "b": "o", "c": "t"})
        self.assertEqual(linking(three, term_of("a (b + c)"), term_of("a b + a c")), [("left", ("n", "o", "t"))])
        self.assertEqual(linking(three, term_of("(b + c) (b + c)"), term_of("b b + b c + c b + c c")), [])

    def test_triples_that_do_not_hold_are_not_told(self):
        last = Kinds(table("ab", lambda x, y: "b"), table("ab", lambda x, y: x))
        book = Book(Rule(last, [], []), {"x": "a", "y": "b"})
        self.assertEqual(linking(book, term_of("x (x + y)"), term_of("x x + x y")), [])
        self.assertEqual(linking(book, term_of("y (x + y)"), term_of("y x + y y")), [("left", ("b", "a", "b"))])

    def test_refused(self):
        for book, one, other in ((stop_book(), "a", "a"), (stop_book(), term_of("a (b + c)"), term_of("a b + a c")), (loose_book(), "x", "x")):
            with self.assertRaises(Refused) as caught:
                linking(book, one, other)
            self.assertIs(caught.exception.value, other)


class WrongArgumentsTest(unittest.TestCase):
    def test_books_and_terms(self):
        head = [(InvalidBook, odd_objects()), (InvalidTerm, NO_TERMS)]
        for function in (class_of, class_size, by_things, farthest, fewest_things):
            check_errors(self, function, [stop_book(), "a"], head)
        two = head + [(InvalidTerm, NO_TERMS)]
        for function in (class_place, fewest_steps, shortest_chain):
            check_errors(self, function, [stop_book(), "a", "a"], two)
        check_errors(self, linking, [stop_book(), "a", "b"], two)
        check_errors(self, is_shortest_chain, [stop_book(), "a", "a", None], two + [(None, [None])])
        counts = [2, -1, True, False, None, "0", [0], 100, (0,)]
        check_errors(self, class_at, [stop_book(), term_of("a (b + c)"), 1], head + [(InvalidCount, counts)])

    def test_apart(self):
        for book, one, other in ((stop_book(), "a", "b"), (loose_book(), "x", "y"), (stop_book(), term_of("m (a + b)"), term_of("m a + m b"))):
            self.assertIs(are_kin(book, one, other), False)
            with self.assertRaises(Apart) as caught:
                class_place(book, one, other)
            self.assertIs(caught.exception.value, other)

    def test_what_was_returned_may_be_changed(self):
        book, term = stop_book(), term_of("a (b + c)")
        for function in (class_of, by_things, fewest_things, lambda book, term: shortest_chain(book, term, term_of("a b + a c")),
                         lambda book, term: parted(book, term, stop_rule()), lambda book, term: parted(book, term, stop_rule())[0],
                         lambda book, term: linking(book, term_of("m (a + b)"), term_of("m a + m b"))):
            told = function(book, term)
            function(book, term).clear()
            self.assertTrue(told)
            self.assertEqual(function(book, term), told)


if __name__ == "__main__":
    unittest.main()
