"""[34] to [39]: shapes and what is settled, and [1] to [3] as far as they speak of them."""

import time
import unittest
from itertools import combinations

from kindspreads.errors import InvalidCount, InvalidKinds, InvalidRule, InvalidTriples
from kindspreads.fulls import is_full
from kindspreads.kinds import Kinds, can_be_left, can_be_right, opposite
from kindspreads.rules import Rule, both_ways, is_within, mirrored_rule, renamed_rule, rule_with, turned, union_rule
from kindspreads.rules import whole_rule
from kindspreads.shapes import are_settled_beside, is_settled, is_unsettled, settled_within, shape_term, shapes, unsettled
from kindspreads.spreads import spreads
from kindspreads.terms import Book, kind_of, term_of, text_of
from tests import naive
from tests.settled_rules import SETTLED_RULES
from tests.helper import PPP, check_errors, odd_objects, one_kind, rows_over, stop_kinds, stop_rule, table, three_kinds
from tests.test_rules import OUT_OF_FORM_LEFT, OUT_OF_FORM_RIGHT

SHAPES = [
    [1, 2], [1, 1, 2], [2, 1], [2, 1, 1], [1, 2, 1],
    [1, 3], [1, 1, 3], [3, 1], [3, 1, 1], [1, 3, 1],
    [1, 4], [1, 1, 4], [4, 1], [4, 1, 1], [1, 4, 1],
    [2, 2], [1, 2, 2], [2, 1, 2], [2, 2, 1], [1, 2, 1, 2], [1, 2, 2, 1], [2, 1, 2, 1], [1, 2, 1, 2, 1],
    [1, 1, 2, 2], [1, 1, 2, 1, 2], [2, 2, 1, 1], [2, 1, 2, 1, 1], [2, 1, 1, 2], [2, 1, 1, 1, 2],
]


def nought_rule():
    """The example's rule, which the shape 27 alone unsettles: its left triples and its right ones part."""
    nought = table("not", lambda x, y: "n")
    times = table("not", lambda x, y: "o" if x + y == "tt" else "n")
    return Rule(Kinds(nought, times), [("o", "o", "o")], [("o", "t", "t"), ("t", "o", "t")])


def eight_settled():
    """A settled rule of three kinds with eight triples, two left ones and six right ones."""
    plus = table("abc", lambda x, y: x if x == y else "b")
    times = table("abc", lambda x, y: "c" if x == "c" else "a" if x == y == "a" else "b")
    right = both_ways(Kinds(plus, times), "right", [("a", "a", "a"), ("a", "b", "a"), ("a", "c", "a"), ("c", "c", "a")])
    return Rule(Kinds(plus, times), [("a", "a", "a"), ("c", "c", "c")], right)


def eight_unsettled():
    """A rule of three kinds with eight triples that is not settled."""
    kinds = eight_settled().kinds()
    right = both_ways(kinds, "right", [("a", "a", "a"), ("a", "b", "a"), ("b", "c", "a"), ("c", "c", "a")])
    return Rule(kinds, [("a", "a", "a"), ("c", "c", "c")], right)


def rules_of_two_kinds():
    """Rules, settled and not, of one and of two kinds, of few triples and of all."""
    pence = stop_kinds()
    last = Kinds(table("ab", lambda x, y: "b"), table("ab", lambda x, y: x))
    rules = [Rule(one_kind(), [], []), Rule(one_kind(), [PPP], []), whole_rule(one_kind()), whole_rule(pence)]
    rules += [Rule(pence, [], []), stop_rule(), whole_rule(last), whole_rule(opposite(last))]
    rules += [Rule(pence, both_ways(pence, "left", [triple]), []) for triple in can_be_left(pence)[::2]]
    rules += [Rule(last, [], both_ways(last, "right", [triple])) for triple in can_be_right(last)]
    rules += [Rule(last, both_ways(last, "left", [one]), both_ways(last, "right", [other]))
              for one in can_be_left(last)[:3] for other in can_be_right(last)[::3]]
    return rules


def shape_terms(rule, most):
    """Books and terms of shapes: all rows of shapes of at most so many things, of greater ones a few that spread."""
    for number, shape in enumerate(SHAPES):
        many = 0
        for row in rows_over(rule.kinds().words(), sum(shape)):
            if row == by_sums(shape, row) and (sum(shape) <= most or many < 2):
                book, term = shape_term(rule, number, row)
                many += 1 if len(spreads(book, term)) > 1 else 0
                yield book, term


def parting_rule(word, triple):
    """A rule of one triple over sums of the kind "a" and products that tell like from unlike kinds."""
    kinds = Kinds(table("ab", lambda x, y: "a"), table("ab", lambda x, y: "a" if x == y else "b"))
    return Rule(kinds, [triple] if word == "left" else [], [triple] if word == "right" else [])


def full_spreads(book, term):
    """All full spreads of a term, by the spreads of the package."""
    found, ahead, fulls = {text_of(term)}, [term], []
    while ahead:
        there = ahead.pop()
        outcomes = spreads(book, there)
        fulls += [] if outcomes else [there]
        for outcome in outcomes:
            if text_of(outcome) not in found:
                found.add(text_of(outcome))
                ahead.append(outcome)
    return fulls


def by_sums(shape, row):
    """A row of kinds with those of each sum ascending: the term is the same but for its names."""
    told = []
    for many in shape:
        told += sorted(row[len(told):len(told) + many])
    return told


class ShapesTest(unittest.TestCase):
    def test_example(self):
        table_of_two = dict([((x, y), "p" if x + y == "pp" else "w") for x in "pw" for y in "pw"])
        stop = Rule(Kinds(table_of_two, table_of_two), [PPP], [PPP])
        self.assertEqual([len(shapes()), is_settled(stop), settled_within(stop)], [29, True, [([PPP], [PPP])]])
        three = nought_rule()
        book, term = shape_term(three, 27, ["o", "t", "t", "t", "o", "o"])
        self.assertEqual(term, ("product", ("sum", "a", "b"), "c", "d", ("sum", "e", "f")))
        self.assertIs(is_settled(three), False)
        row = ["o", "t", "t", "t", "o", "o"]
        one = ("product", ("sum", "a", "b"), ("sum", ("product", "c", "d", "e"), ("product", "c", "d", "f")))
        other = ("product", ("sum", ("product", "a", "c"), ("product", "b", "c")), "d", ("sum", "e", "f"))
        self.assertIs(is_unsettled(three, (27, row, one, other)), True)
        self.assertIs(is_unsettled(three, (27, row, one, one)), False)

    def test_all_shapes_in_their_order(self):
        self.assertEqual(shapes(), SHAPES)
        shapes()[0].clear()
        shapes().clear()
        self.assertEqual(shapes(), SHAPES)


class ShapeTermTest(unittest.TestCase):
    def test_things_from_left_to_right(self):
        for number, shape in enumerate(SHAPES):
            for rule in (stop_rule(), nought_rule()):
                words = rule.kinds().words()
                row = [words[at % len(words)] for at in range(sum(shape))]
                book, term = shape_term(rule=rule, number=number, row=row)
                self.assertEqual("".join(naive.things(term)), "abcdefg"[:sum(shape)])
                self.assertEqual(book.rule(), rule)
                self.assertEqual([book.things()[thing] for thing in naive.things(term)], row)
                self.assertEqual([1 if isinstance(part, str) else len(part) - 1 for part in term[1:]], shape)
                self.assertEqual(kind_of(book, term), naive.kind(book, term))

    def test_kinds_that_are_not_in_the_row_have_the_next_letters(self):
        row = ["t", "t", "t"]
        book, term = shape_term(nought_rule(), 0, row)
        self.assertEqual([text_of(term), row], ["a (b + c)", ["t", "t", "t"]])
        self.assertEqual(list(book.things().items()), [("a", "t"), ("b", "t"), ("c", "t"), ("d", "n"), ("e", "o")])
        book, term = shape_term(nought_rule(), 28, ["o"] * 7)
        self.assertEqual([text_of(term), len(book.things())], ["(a + b) c d e (f + g)", 9])
        self.assertEqual([book.things()["h"], book.things()["i"]], ["n", "t"])
        book, _ = shape_term(stop_rule(), 2, ["p", "p", "w"])
        self.assertEqual(list(book.things()), ["a", "b", "c"])

    def test_more_kinds_than_letters(self):
        words = sorted([first + second for first in "abcdef" for second in "abcdef"])[:30]
        kinds = Kinds({(x, y): min(x, y) for x in words for y in words}, {(x, y): x for x in words for y in words})
        rule = Rule(kinds, [], [])
        book, term = shape_term(rule, 0, ["ab"] * 3)
        self.assertEqual([text_of(term), len(book.things())], ["a (b + c)", 32])
        self.assertEqual([book.things()[thing] for thing in "abc"], ["ab"] * 3)
        self.assertIs(is_unsettled(rule, (0, ["ab"] * 3, term, term)), False)

    def test_wrong_arguments(self):
        row = ["p", "p", "p"]
        wrong_rows = [None, True, [], ("p", "p", "p"), "ppp", ["p", "p"], ["p", "p", "p", "p"], ["p", "p", "v"],
                      ["p", "p", None], ["p", "p", ["p"]], {"p": "p"}, ["p", True, "p"], [("p",), "p", "p"]]
        check_errors(self, shape_term, [stop_rule(), 0, row], [
            (InvalidRule, odd_objects() + [stop_kinds()]),
            (InvalidCount, [-1, 29, 100, True, False, None, "0", [0], (0,), -29]),
            (InvalidKinds, wrong_rows),
        ])
        shape_term(stop_rule(), 28, ["w"] * 7)
        with self.assertRaises(InvalidKinds):
            shape_term(stop_rule(), 28, row)


class SettledTest(unittest.TestCase):
    def test_settled_rules_by_all_ways_of_shapes(self):
        # Of rules that are not settled UnsettledTest looks at what is told of them.
        told = [is_settled(rule=rule) for rule in rules_of_two_kinds()]
        self.assertEqual([told.count(True) > 5, told.count(False) > 5], [True, True])
        for rule in rules_of_two_kinds() + [eight_settled()]:
            if is_settled(rule):
                for book, term in shape_terms(rule, 4):
                    self.assertEqual(len(naive.fulls(book, term)), 1, (term, rule.left(), rule.right()))

    def test_rules_that_one_great_shape_alone_unsettles(self):
        for rule, number in ((parting_rule("left", ("a", "b", "b")), 24), (parting_rule("right", ("b", "b", "a")), 26),
                             (nought_rule(), 27)):
            self.assertIs(is_settled(rule), False)
            self.assertEqual(unsettled(rule)[0], number)

    def test_three_kinds(self):
        self.assertIs(is_settled(nought_rule()), False)
        for rule, settled in ((eight_settled(), True), (eight_unsettled(), False)):
            self.assertEqual([len(rule.left() + rule.right()), len(rule.kinds().words())], [8, 3])
            for each in (rule, mirrored_rule(rule), renamed_rule(rule, {"a": "z", "b": "y", "c": "x"})):
                self.assertIs(is_settled(each), settled)

    def test_without_triples(self):
        for kinds in (one_kind(), stop_kinds(), three_kinds()):
            self.assertIs(is_settled(Rule(kinds, [], [])), True)

    def test_settled_rules_have_one_full_spread_of_greater_terms(self):
        texts = ["a (b + m) (a + b) c", "(a + b) a (a + c) m", "a (b + c (a + b) m) c", "m a (b + c (a + m))"]
        for rule in rules_of_two_kinds():
            if is_settled(rule) and len(rule.left() + rule.right()) < 3:
                for text in texts:
                    words = rule.kinds().words()
                    book = Book(rule, {"a": words[0], "b": words[0], "c": words[-1], "m": words[-1]})
                    self.assertEqual(len(full_spreads(book, term_of(text))), 1)

    def test_asking_changes_nothing(self):
        rule = nought_rule()
        self.assertEqual([is_settled(rule), is_settled(rule), rule == nought_rule()], [False, False, True])
        self.assertEqual(rule.left(), nought_rule().left())


def rules_told():
    """Tuples of a rule and whether it is settled, of those of settled_rules, some of them mirrored or renamed."""
    for words, plus, times, left, right, settled in SETTLED_RULES:
        pairs = [(one, other) for one in words for other in words]
        kinds = Kinds(dict(zip(pairs, plus)), dict(zip(pairs, times)))
        rule = Rule(kinds, [tuple(each) for each in left.split()], [tuple(each) for each in right.split()])
        yield rule, settled
        yield mirrored_rule(rule), settled
        yield renamed_rule(rule, dict(zip(words, "zyx"))), settled


class FirstQuestionTest(unittest.TestCase):
    def test_answers_stay_as_all_rows_of_all_shapes_tell_them(self):
        for rule, settled in rules_told():
            self.assertIs(is_settled(rule), settled, (rule.left(), rule.right()))
            found = unsettled(Rule(rule.kinds(), rule.left(), rule.right()))
            self.assertIs(found is None, settled)
            if found is not None:
                self.assertIs(is_unsettled(rule, found), True)
                book, term = shape_term(rule, found[0], found[1])
                self.assertEqual([is_full(book, full) for full in found[2:]], [True, True])

    def test_rules_of_other_tables_or_triples_are_told_apart(self):
        told = list(rules_told())
        for rule, settled in told + told[::-1]:
            self.assertIs(is_settled(Rule(rule.kinds(), rule.left(), rule.right())), settled)
            self.assertIs(is_settled(Rule(rule.kinds(), [], [])), True)

    def test_many_fresh_rules_in_fair_time(self):
        # Some tenths of a thousandth of a second each; the bound lets each take fifty of them.
        least = table("xy", lambda x, y: "x" if x == y == "x" else "y")
        first = table("xy", lambda x, y: x)
        asked = 0
        begun = time.process_time()
        for times in (least, first):
            for names in ("ab", "ba", "xy", "yx"):
                rule = renamed_rule(whole_rule(Kinds(least, times)), dict(zip("xy", names)))
                for each in (rule, mirrored_rule(rule), Rule(rule.kinds(), rule.left(), rule.right())):
                    self.assertIs(is_settled(each), True)
                    self.assertIs(unsettled(Rule(each.kinds(), each.left(), each.right())), None)
                    asked += 2
        for each in (eight_settled(), eight_unsettled(), mirrored_rule(eight_settled()), nought_rule()):
            is_settled(each)
            unsettled(Rule(each.kinds(), each.left(), each.right()))
            asked += 2
        for words in ("ab", "yx"):
            sides = Kinds(table(words, lambda x, y: words[0]), table(words, max))
            left, right = [triple for triple in can_be_left(sides) if triple[1] == triple[2]], can_be_right(sides)
            settled_within(Rule(sides, left, [triple for triple in right if triple[0] == triple[1]][:2]))
            asked += 8
        self.assertLess(time.process_time() - begun, asked * 0.02)


class UnsettledTest(unittest.TestCase):
    def test_what_is_told_is_one(self):
        rules = rules_of_two_kinds() + [nought_rule(), eight_settled(), eight_unsettled(), mirrored_rule(nought_rule())]
        for rule in rules:
            found = unsettled(rule=rule)
            self.assertIs(found is None, is_settled(rule))
            self.assertIs(is_unsettled(rule=rule, value=found), found is not None)
            if found is not None:
                number, row, one, other = found
                book, term = shape_term(rule, number, row)
                fulls = naive.fulls(book, term)
                self.assertIn(one, fulls)
                self.assertIn(other, fulls)
                self.assertNotEqual(one, other)

    def test_what_is_told_may_be_changed(self):
        rule = nought_rule()
        found = unsettled(rule)
        unsettled(rule)[1].clear()
        self.assertEqual(unsettled(rule), found)

    def test_just_unlike_full_spreads_of_the_term(self):
        rule, row = nought_rule(), ["o", "t", "t", "t", "o", "o"]
        book, term = shape_term(rule, 27, row)
        few = sorted(naive.reached(book, term), key=naive.text) + ["a", term_of("c d"), term_of("a c + b c")]
        fulls = naive.fulls(book, term)
        self.assertEqual(len(fulls), 2)
        for one in few:
            for other in few:
                told = one in fulls and other in fulls and one != other
                self.assertIs(is_unsettled(rule, (27, row, one, other)), told)

    def test_other_objects(self):
        rule, row = nought_rule(), ["o", "t", "t", "t", "o", "o"]
        number, _, one, other = (27, row) + tuple(naive.fulls(*shape_term(rule, 27, row)))
        self.assertIs(is_unsettled(rule, (number, row, one, other)), True)
        self.assertIs(is_unsettled(rule, (number, row, other, one)), True)
        wrong = [
            [number, row, one, other], (number, row, one), (number, row, one, other, one), (number, tuple(row), one, other),
            (True, row, one, other), (-2, row, one, other), (29, row, one, other), (None, row, one, other),
            ("27", row, one, other), (26, row, one, other), (number, row[:5], one, other), (number, row + ["o"], one, other),
            (number, ["t"] * 6, one, other), (number, ["o", "t", "t", "t", "o", "x"], one, other),
            (number, row, list(one), other), (number, row, one, list(other)), (number, row, one, None),
            (number, None, one, other), (number, row, text_of(one), text_of(other)), (row, number, one, other),
            (number, row, ("product", "z", "z"), other), (number, [None] * 6, one, other),
        ]
        for value in odd_objects() + wrong:
            self.assertIs(is_unsettled(rule, value), False, value)
            self.assertIs(is_unsettled(stop_rule(), value), False, value)

    def test_wrong_arguments(self):
        for function in (is_settled, unsettled, settled_within):
            check_errors(self, function, [stop_rule()], [(InvalidRule, odd_objects() + [stop_kinds()])])
        check_errors(self, is_unsettled, [stop_rule(), None], [(InvalidRule, odd_objects()), (None, [None])])


class WithinTest(unittest.TestCase):
    def test_the_greatest_settled_ones(self):
        last = Kinds(table("ab", lambda x, y: "b"), table("ab", lambda x, y: x))
        rules = [stop_rule(), Rule(stop_kinds(), [], []), whole_rule(one_kind()), Rule(one_kind(), [], [PPP])]
        rules += [Rule(last, can_be_left(last), []), Rule(last, [("b", "a", "a"), ("b", "b", "b")], can_be_right(last)[:2])]
        left = both_ways(stop_kinds(), "left", [PPP, ("p", "p", "w"), ("w", "p", "p")])
        rules += [Rule(stop_kinds(), left, both_ways(stop_kinds(), "right", [PPP, ("w", "w", "p")]))]
        rules += [union_rule(parting_rule("left", ("a", "b", "b")), parting_rule("right", ("b", "b", "a")))]
        sides = Kinds(table("ab", lambda x, y: "a"), table("ab", max))
        rules += [Rule(sides, [("a", "b", "b")], [("b", "b", "a")])]
        found = []
        for rule in rules:
            found.append(settled_within(rule=rule))
            self.assertEqual(found[-1], self.by_all_lesser_rules(rule))
        self.assertEqual(found[-1], [([], [("b", "b", "a")]), ([("a", "b", "b")], [])])

    def by_all_lesser_rules(self, rule):
        told = [("left", triple) for triple in rule.left()] + [("right", triple) for triple in rule.right()]
        settled = []
        for many in range(len(told) + 1):
            for row in combinations(told, many):
                if all((word, turned(word, triple)) in row for word, triple in row):
                    left = [triple for word, triple in row if word == "left"]
                    right = [triple for word, triple in row if word == "right"]
                    lesser = Rule(rule.kinds(), left, right)
                    settled += [lesser] if is_settled(lesser) else []
        greatest = [one for one in settled if not any(is_within(one, other) and one != other for other in settled)]
        return sorted((each.left(), each.right()) for each in greatest)

    def test_lists_returned_are_new(self):
        rule = stop_rule()
        settled_within(rule)[0][0].clear()
        settled_within(rule).clear()
        self.assertEqual(settled_within(rule), [([PPP], [PPP])])


class BesideTest(unittest.TestCase):
    def test_with_further_triples(self):
        three = nought_rule()
        left_alone, right_alone = Rule(three.kinds(), three.left(), []), Rule(three.kinds(), [], three.right())
        self.assertEqual([is_settled(left_alone), is_settled(right_alone), is_settled(three)], [True, True, False])
        self.assertIs(are_settled_beside(rule=left_alone, left=[], right=three.right()), False)
        self.assertIs(are_settled_beside(left_alone, three.left(), []), True)
        self.assertIs(are_settled_beside(right_alone, three.left(), []), False)
        for rule in rules_of_two_kinds()[4:10]:
            for triple in can_be_left(rule.kinds())[:3]:
                more = both_ways(rule.kinds(), "left", [triple])
                self.assertIs(are_settled_beside(rule, more, []), is_settled(rule_with(rule, more, [])))

    def test_wrong_arguments(self):
        check_errors(self, are_settled_beside, [stop_rule(), [PPP], [PPP]], [
            (InvalidRule, odd_objects()),
            (InvalidTriples, OUT_OF_FORM_LEFT),
            (InvalidTriples, OUT_OF_FORM_RIGHT),
        ])


if __name__ == "__main__":
    unittest.main()
