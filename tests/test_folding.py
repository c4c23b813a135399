"""[92] to [94]: coarsest kinds, and [1] to [4] as far as they speak of them."""

import unittest
from itertools import product

from kindspreads.errors import InvalidBook, InvalidFolding, InvalidKind, InvalidRule
from kindspreads.folding import all_foldings, coarsest, folded_book, folded_rule, is_folding, is_telling, telling
from kindspreads.fulls import full_spreads
from kindspreads.kin import are_kin
from kindspreads.kinds import Kinds
from kindspreads.rules import Rule, rule_without, turned, whole_rule
from kindspreads.shapes import is_settled
from kindspreads.spreads import gatherings, spreads
from kindspreads.terms import Book
from tests import naive
from tests.helper import PPP, check_errors, odd_objects, one_kind, stop_kinds, stop_rule, stop_table, table, three_kinds
from tests.test_shapes import nought_rule

STEPS = ("plus", "ahead", "behind")


def alike_rule():
    """The document's rule: all but "p" are alike."""
    return Rule(stop_kinds("pvw"), [PPP], [PPP])


def bent_rule():
    """The document's rule, bent by one kind: "v" and "w" are told apart by a left triple."""
    return Rule(stop_kinds("pvw"), [PPP, ("p", "v", "v")], [PPP])


def stepped_rule():
    """Kinds that only several steps tell apart: each added "a" leads one kind on, and just "d" stands in a triple."""
    rising = table("abcd", lambda x, y: "abcd"[min(3, "abcd".index(x) + "abcd".index(y) + 1)])
    last = table("abcd", lambda x, y: "d")
    return Rule(Kinds(rising, last), [("d", "d", "d")], [])


def ahead_rule():
    """Products with other kinds ahead, or behind, tell kinds apart that stand in no triple themselves."""
    plus = table("abc", lambda x, y: "c")
    times = table("abc", lambda x, y: y if x == "a" else "c")
    return Rule(Kinds(plus, times), [("a", "c", "c")], [])


def rules():
    few = [stop_rule(), alike_rule(), bent_rule(), nought_rule(), whole_rule(three_kinds()), whole_rule(one_kind()), stepped_rule()]
    few += [Rule(stop_kinds("pvw"), [], []), Rule(three_kinds(), [], []), ahead_rule(), whole_rule(ahead_rule().kinds())]
    greater = Kinds(table("abc", max), table("abc", min))
    few += [whole_rule(greater), Rule(greater, [], []), Rule(Kinds(table("abc", max), table("abc", lambda x, y: x)), [], [])]
    for triple in whole_rule(greater).left()[::4]:
        few.append(rule_without(whole_rule(greater), sorted({triple, turned("left", triple)}), []))
    return few


def partings(words):
    if not words:
        return [[]]
    found = []
    for lists in partings(words[:-1]):
        found += [lists[:at] + [lists[at] + [words[-1]]] + lists[at + 1:] for at in range(len(lists))] + [lists + [[words[-1]]]]
    return found


def fits(rule, lists):
    """Whether a parting is a folding, by the words of the document."""
    kinds = rule.kinds()
    place = {kind: at for at, row in enumerate(lists) for kind in row}
    for row, other_row in product(lists, lists):
        for a, b, c, d in product(row, row, other_row, other_row):
            if place[kinds.add(a, c)] != place[kinds.add(b, d)] or place[kinds.multiply(a, c)] != place[kinds.multiply(b, d)]:
                return False
    for triples in (rule.left(), rule.right()):
        for one, other in product(product(kinds.words(), repeat=3), repeat=2):
            if sum(a != b for a, b in zip(one, other)) == 1 and all(place[a] == place[b] for a, b in zip(one, other)):
                if (one in triples) != (other in triples):
                    return False
    return True


def tells(rule, value, one, other):
    word, steps, place, beside = value
    found = []
    for kind in (one, other):
        for step, with_kind in steps:
            kinds = rule.kinds()
            kind = kinds.add(kind, with_kind) if step == "plus" else kinds.multiply(with_kind, kind) if step == "ahead" else kinds.multiply(kind, with_kind)
        triple = list(beside)
        triple.insert(place, kind)
        found.append(tuple(triple) in (rule.left() if word == "left" else rule.right()))
    return found[0] != found[1]


class FoldingTest(unittest.TestCase):
    def test_example(self):
        both = stop_table("pvw")
        rule = Rule(Kinds(both, both), [PPP], [PPP])
        self.assertEqual([coarsest(rule), all_foldings(rule)], [[["p"], ["v", "w"]], [[["p"], ["v"], ["w"]], [["p"], ["v", "w"]]]])
        self.assertEqual([telling(rule, "v", "w"), is_folding(rule, [["p", "v"], ["w"]])], [None, False])
        self.assertIs(is_telling(rule, "p", "v", ("left", [], 0, ("p", "p"))), True)
        self.assertIs(is_telling(rule, "p", "v", ("left", [("plus", "v")], 0, ("p", "p"))), False)
        self.assertIs(is_telling(rule, "p", "w", ("right", [("ahead", "p")], 2, ("p", "p"))), True)
        small = folded_rule(rule, [["p"], ["v", "w"]])
        self.assertEqual([small.kinds().words(), small.left()], [["p", "v"], [PPP]])
        book = folded_book(Book(rule, {"x": "p", "y": "v", "z": "w"}), [["p"], ["v", "w"]])
        self.assertEqual(book.things(), {"x": "p", "y": "v", "z": "v"})

    def test_all_partings(self):
        for rule in rules():
            told = [lists for lists in partings(rule.kinds().words()) if fits(rule, lists)]
            self.assertEqual(all_foldings(rule=rule), sorted(told))
            for lists in partings(rule.kinds().words()):
                self.assertIs(is_folding(rule=rule, value=lists), lists in told)
            widest = coarsest(rule=rule)
            self.assertIn(widest, told)
            for lists in told:
                self.assertTrue(all(any(set(row) <= set(wide) for wide in widest) for row in lists))

    def test_no_kinds_alike_all_alike_and_kinds_bent_by_one(self):
        self.assertEqual(coarsest(bent_rule()), [["p"], ["v"], ["w"]])
        self.assertEqual(all_foldings(bent_rule()), [[["p"], ["v"], ["w"]]])
        self.assertEqual(coarsest(whole_rule(three_kinds())), [["n", "o", "t"]])
        self.assertEqual(len(all_foldings(whole_rule(three_kinds()))), 5)
        self.assertEqual(coarsest(Rule(three_kinds(), [], [])), [["n", "o", "t"]])
        self.assertEqual([coarsest(stop_rule()), all_foldings(stop_rule())], [[["p"], ["w"]], [[["p"], ["w"]]]])
        self.assertEqual([coarsest(whole_rule(one_kind())), all_foldings(whole_rule(one_kind()))], [[["p"]], [[["p"]]]])

    def test_tables_alone_tell_kinds_apart(self):
        # Sums part a from others, though no triple does; the join of foldings is one itself.
        rule = Rule(Kinds(table("abc", max), table("abc", lambda x, y: x)), [], [])
        self.assertIn([["a", "b"], ["c"]], all_foldings(rule))
        self.assertIn([["a"], ["b", "c"]], all_foldings(rule))
        self.assertNotIn([["a", "c"], ["b"]], all_foldings(rule))
        self.assertEqual(coarsest(rule), [["a", "b", "c"]])

    def test_judged_objects(self):
        rule = alike_rule()
        wrong = [[["p"], ["w", "v"]], [["v", "w"], ["p"]], [["p"], ["v", "w"], []], [[], ["p"], ["v", "w"]], [["p"], ["v"]], [["p"], ["v", "w", "w"]]]
        wrong += [[["p"], ["v", "w"], ["w"]], (["p"], ["v", "w"]), [("p",), ("v", "w")], [["p"], ["v", None]], [["p"], ["v", "w", "z"]], ["p", ["v", "w"]]]
        wrong += [{0: ["p"], 1: ["v", "w"]}, [["p"], "vw"], [["p"], ["v", ["w"]]], ["p", "v", "w"], [["p", "v", "w"]], [["p"], {"v": 0, "w": 1}]]
        for value in wrong + odd_objects():
            self.assertIs(is_folding(rule, value), False, value)
            for function in (folded_rule, lambda each, lists: folded_book(Book(rule, {"a": "p", "b": "v", "c": "w"}), lists)):
                with self.assertRaises(InvalidFolding) as caught:
                    function(rule, value)
                self.assertIs(caught.exception.value, value)


class TellingTest(unittest.TestCase):
    def test_there_is_one_exactly_if_no_list_has_both(self):
        for rule in rules():
            words = rule.kinds().words()
            for one, other in product(words, words):
                alike = any(one in row and other in row for row in coarsest(rule))
                found = telling(rule=rule, one=one, other=other)
                self.assertIs(found is None, alike)
                if found is not None:
                    self.assertTrue(tells(rule, found, one, other))
                    self.assertIs(is_telling(rule=rule, one=one, other=other, value=found), True)

    def test_all_short_tellings(self):
        for rule in (alike_rule(), nought_rule(), ahead_rule()):
            words = rule.kinds().words()
            steps = [(word, kind) for word in STEPS for kind in words]
            rows = [[]] + [[step] for step in steps] + [list(row) for row in product(steps, steps)]
            for word, row, place in product(("left", "right"), rows[::4] + rows[:4], range(3)):
                for beside in product(words, words):
                    value = (word, row, place, beside)
                    for one, other in (words[:2], words[1:], [words[0]] * 2):
                        self.assertIs(is_telling(rule, one, other, value), tells(rule, value, one, other))

    def test_without_steps_and_with_several(self):
        self.assertEqual(telling(alike_rule(), "p", "v")[1], [])
        rule = stepped_rule()
        self.assertEqual(coarsest(rule), [["a"], ["b"], ["c"], ["d"]])
        # Without a step just "d" stands in a triple: "a" needs a step of three to be led there, or several.
        self.assertIs(is_telling(rule, "a", "b", ("left", [("plus", "a"), ("plus", "a")], 0, ("d", "d"))), True)
        self.assertIs(is_telling(rule, "a", "b", ("left", [("plus", "a")], 0, ("d", "d"))), False)
        self.assertIs(is_telling(rule, "a", "b", ("left", [("plus", "a")] * 3, 0, ("d", "d"))), False)
        self.assertIs(is_telling(rule, "b", "c", ("left", [("plus", "a")], 1, ("d", "d"))), True)

    def test_steps_ahead_and_behind_are_unlike(self):
        rule = ahead_rule()
        self.assertIs(is_telling(rule, "a", "b", ("left", [("behind", "a")], 0, ("c", "c"))), True)
        self.assertIs(is_telling(rule, "a", "b", ("left", [("ahead", "a")], 0, ("c", "c"))), True)
        self.assertIs(is_telling(rule, "a", "b", ("left", [("ahead", "b")], 0, ("c", "c"))), False)
        self.assertIs(is_telling(rule, "a", "b", ("left", [("behind", "b")], 1, ("a", "c"))), True)

    def test_judged_objects(self):
        rule = alike_rule()
        good = ("left", [("plus", "p")], 0, ("p", "p"))
        self.assertIs(is_telling(rule, "p", "v", good), True)
        wrong = [list(good), good + (1,), good[:3], ("Left",) + good[1:], (None,) + good[1:], ("left", (("plus", "p"),), 0, ("p", "p"))]
        wrong += [("left", [["plus", "p"]], 0, ("p", "p")), ("left", [("plus", "z")], 0, ("p", "p")), ("left", [("minus", "p")], 0, ("p", "p"))]
        wrong += [("left", [("plus",)], 0, ("p", "p")), ("left", [("plus", "p", "p")], 0, ("p", "p")), ("left", [None], 0, ("p", "p")), ("left", None, 0, ("p", "p"))]
        wrong += [("left", [], False, ("p", "p")), ("left", [], 3, ("p", "p")), ("left", [], -1, ("p", "p")), ("left", [], "0", ("p", "p")), ("left", [], None, ("p", "p"))]
        wrong += [("left", [], 0, ["p", "p"]), ("left", [], 0, ("p",)), ("left", [], 0, ("p", "p", "p")), ("left", [], 0, ("p", "z")), ("left", [], 0, "pp"), ("left", [], 0, (["p"], "p"))]
        wrong += [("left", [("plus", ["p"])], 0, ("p", "p")), ("left", [(["plus"], "p")], 0, ("p", "p")), (["left"], [], 0, ("p", "p")), ("left", {}, 0, ("p", "p"))]
        for value in wrong + odd_objects():
            self.assertIs(is_telling(rule, "p", "v", value), False, value)
        for value in (good, ("left", [], 0, ("p", "p"))):
            self.assertIs(is_telling(rule, "v", "w", value), False)
            self.assertIs(is_telling(rule, "v", "v", value), False)


class FoldedTest(unittest.TestCase):
    def test_rules(self):
        for rule in rules():
            for lists in all_foldings(rule):
                small = folded_rule(rule=rule, lists=lists)
                names = {kind: row[0] for row in lists for kind in row}
                self.assertEqual(small.kinds().words(), [row[0] for row in lists])
                for one, other in product(rule.kinds().words(), repeat=2):
                    self.assertEqual(small.kinds().add(names[one], names[other]), names[rule.kinds().add(one, other)])
                    self.assertEqual(small.kinds().multiply(names[one], names[other]), names[rule.kinds().multiply(one, other)])
                for triples, folded in ((rule.left(), small.left()), (rule.right(), small.right())):
                    self.assertEqual(folded, sorted({tuple(names[kind] for kind in triple) for triple in triples}))
                self.assertIs(is_settled(small), is_settled(rule))
                if len(lists) == len(names):
                    self.assertEqual(small, rule)

    def test_books_have_the_same_spreads_gatherings_full_spreads_and_kin(self):
        for rule in (alike_rule(), whole_rule(three_kinds()), whole_rule(ahead_rule().kinds())):
            words = rule.kinds().words()
            book = Book(rule, {thing: kind for thing, kind in zip("xyz", words)})
            terms = naive.few_terms("xyz", 4)
            for lists in all_foldings(rule):
                small = folded_book(book=book, lists=lists)
                self.assertEqual(small.rule(), folded_rule(rule, lists))
                self.assertEqual(list(small.things()), ["x", "y", "z"])
                for term in terms[::17]:
                    for function in (spreads, gatherings, full_spreads):
                        self.assertEqual(function(small, term), function(book, term))
                    for other in terms[::29]:
                        self.assertIs(are_kin(small, term, other), are_kin(book, term, other))

    def test_what_was_passed_or_returned_may_be_changed(self):
        rule = alike_rule()
        lists = [["p"], ["v", "w"]]
        small = folded_rule(rule, lists)
        lists[1].append("x")
        self.assertEqual(small.kinds().words(), ["p", "v"])
        for function in (coarsest, all_foldings):
            told = function(rule)
            function(rule)[0].append("x")
            function(rule).clear()
            self.assertEqual(function(rule), told)
        telling(stepped_rule(), "a", "b")[1].clear()
        self.assertIs(is_telling(stepped_rule(), "a", "b", telling(stepped_rule(), "a", "b")), True)


class WrongArgumentsTest(unittest.TestCase):
    def test_rules_kinds_and_foldings(self):
        rule = alike_rule()
        wrong = (InvalidRule, odd_objects() + [rule.kinds()])
        kinds = (InvalidKind, odd_objects() + ["z", "n"])
        for function in (all_foldings, coarsest):
            check_errors(self, function, [rule], [wrong])
        check_errors(self, is_folding, [rule, None], [wrong, (None, [None])])
        check_errors(self, telling, [rule, "p", "v"], [wrong, kinds, kinds])
        check_errors(self, is_telling, [rule, "p", "v", None], [wrong, kinds, kinds, (None, [None])])
        check_errors(self, folded_rule, [rule, [["p"], ["v", "w"]]], [wrong, (InvalidFolding, odd_objects() + [[["p", "v", "w"]]])])
        book = Book(rule, {"x": "p", "y": "v", "z": "w"})
        check_errors(self, folded_book, [book, [["p"], ["v", "w"]]], [(InvalidBook, odd_objects() + [rule]), (InvalidFolding, odd_objects())])


if __name__ == "__main__":
    unittest.main()
