"""[56] to [58]: a world of just the rule, and [1] to [4] as far as they speak of it."""

import unittest

from kindspreads.errors import InvalidBook, InvalidRule, InvalidTriples, InvalidWord
from kindspreads.justrule import own_inputs, own_size, own_tuples, own_world, triple_terms
from kindspreads.kin import are_kin
from kindspreads.kinds import Kinds, can_be_left, can_be_right
from kindspreads.rules import Rule, rule_with, rule_without, turned, whole_rule
from kindspreads.terms import Book, text_of
from kindspreads.valued import are_inputs, fits, rule_of, value_of
from tests.books import stop_book
from tests.helper import PPP, check_errors, odd_objects, one_kind, stop_kinds, stop_rule, table, three_kinds
from tests.test_shapes import eight_settled, eight_unsettled, nought_rule, rules_of_two_kinds

VALUES = ["v" + letter for letter in "abcdefghijklmnopqrstuvwxyz"]
VALUES += ["v" + first + second for first in "abc" for second in "abcdefghijklmnopqrstuvwxyz"]


def rules():
    told = rules_of_two_kinds() + [nought_rule(), eight_settled(), eight_unsettled(), whole_rule(three_kinds())]
    return told + [Rule(three_kinds(), [], []), rule_without(whole_rule(stop_kinds()), [PPP], []), rule_with(stop_rule(), [("w", "w", "w")], [])]


def tuples_of(rule):
    """The tuples of [56], by its words."""
    words = rule.kinds().words()
    told = [("thing", a) for a in words] + sorted(("sum", min(b, c), max(b, c)) for b in words for c in words if b <= c)
    told += sorted(("left", a, b, c) for a, b, c in can_be_left(rule.kinds()) if b <= c and (a, b, c) not in rule.left())
    told += sorted(("right", b, c, a) for b, c, a in can_be_right(rule.kinds()) if b <= c and (b, c, a) not in rule.right())
    return told + [("rest", a) for a in words]


def kind_of_tuple(kinds, told):
    if told[0] == "sum":
        return kinds.add(told[1], told[2])
    if told[0] == "left":
        return kinds.multiply(told[1], kinds.add(told[2], told[3]))
    if told[0] == "right":
        return kinds.multiply(kinds.add(told[1], told[2]), told[3])
    return told[1]


class OwnWorldTest(unittest.TestCase):
    def test_example(self):
        stop, bare = stop_rule(), Rule(stop_kinds(), [], [])
        ahead = [("thing", "p"), ("thing", "w"), ("sum", "p", "p"), ("sum", "p", "w"), ("sum", "w", "w"), ("left", "p", "p", "w")]
        self.assertEqual([own_size(stop), own_size(bare), own_tuples(stop)[:6]], [17, 19, ahead])
        self.assertEqual(own_tuples(stop)[-2:], [("rest", "p"), ("rest", "w")])
        book = Book(stop, {"a": "p", "m": "w"})
        left = (("product", "a", ("sum", "a", "m")), ("sum", ("product", "a", "a"), ("product", "a", "m")))
        right = (("product", ("sum", "a", "m"), "a"), ("sum", ("product", "a", "a"), ("product", "m", "a")))
        self.assertEqual([triple_terms(book, "left", ("p", "p", "w")), triple_terms(book, "right", ("w", "p", "p"))], [left, right])
        self.assertEqual(own_inputs(book), {"a": "va", "m": "vb"})
        world, inputs = own_world(stop), own_inputs(book)
        values = [[value_of(world, book, inputs, term) for term in triple_terms(book, "left", triple)] for triple in (PPP, ("p", "p", "w"))]
        self.assertEqual(values, [["vp", "vp"], ["vf", "vq"]])

    def test_tuples(self):
        for rule in rules():
            self.assertEqual(own_tuples(rule=rule), tuples_of(rule))
            self.assertEqual(own_size(rule=rule), len(tuples_of(rule)))
            own_tuples(rule).clear()
            self.assertEqual(own_tuples(rule), tuples_of(rule))
        self.assertEqual(own_size(Rule(three_kinds(), [], [])), 3 + 6 + 18 + 18 + 3)

    def test_what_the_tables_make(self):
        for rule in rules():
            world, told, kinds = own_world(rule=rule), tuples_of(rule), rule.kinds()
            name = dict(zip(told, VALUES))
            plus, times = world.plus(), world.times()
            for one in told:
                for other in told:
                    rests = [name[("rest", make(kind_of_tuple(kinds, one), kind_of_tuple(kinds, other)))] for make in (kinds.add, kinds.multiply)]
                    added = name[("sum",) + tuple(sorted([one[1], other[1]]))] if one[0] == other[0] == "thing" else rests[0]
                    made = rests[1]
                    if (one[0], other[0]) == ("thing", "sum"):
                        made = name.get(("left", one[1]) + other[1:], made)
                    if (one[0], other[0]) == ("sum", "thing"):
                        made = name.get(("right",) + one[1:] + (other[1],), made)
                    self.assertEqual([plus[(name[one], name[other])], times[(name[one], name[other])]], [added, made])
            for kind in kinds.words():
                self.assertEqual(world.holding()[kind], sorted(name[each] for each in told if kind_of_tuple(kinds, each) == kind))

    def test_just_its_triples_spread(self):
        for rule in rules():
            self.assertEqual(rule_of(own_world(rule)), rule)
            self.assertIs(fits(own_world(rule), rule), True)
        self.assertIs(fits(own_world(stop_rule()), whole_rule(stop_kinds())), False)


class TripleTermsTest(unittest.TestCase):
    def test_kin_exactly_if_the_triple_is_in_the_rule(self):
        for rule in rules():
            words = rule.kinds().words()
            book = Book(rule, {letter: kind for letter, kind in zip("gfedcb", words + words)})
            first = {kind: min(thing for thing, sort in book.things().items() if sort == kind) for kind in words}
            world, inputs = own_world(rule), own_inputs(book=book)
            self.assertIs(are_inputs(world, book, inputs), True)
            self.assertEqual(list(inputs.items()), [(thing, VALUES[words.index(kind)]) for thing, kind in book.things().items()])
            for word, triples in (("left", can_be_left(rule.kinds())), ("right", can_be_right(rule.kinds()))):
                for triple in triples:
                    one, other = triple_terms(book=book, word=word, triple=triple)
                    there = triple in (rule.left() if word == "left" else rule.right())
                    self.check_texts(word, [first[kind] for kind in triple], text_of(one), text_of(other))
                    self.assertIs(are_kin(book, one, other), there)
                    self.assertIs(value_of(world, book, inputs, one) == value_of(world, book, inputs, other), there)

    def check_texts(self, word, things, one, other):
        x, y, z = things if word == "left" else things[2:] + things[:2]
        total = " + ".join(sorted([y, z]))
        self.assertEqual(one, f"{x} ({total})" if word == "left" else f"({total}) {x}")
        spread = sorted([x + " " + y, x + " " + z] if word == "left" else [y + " " + x, z + " " + x])
        self.assertEqual(other, " + ".join(spread))

    def test_triples_of_unlike_rules(self):
        for triple in can_be_left(stop_kinds()):
            told = [are_kin(book, *triple_terms(book, "left", triple)) for book in (
                stop_book(), Book(Rule(stop_kinds(), sorted({triple, turned("left", triple)}), []), stop_book().things()))]
            self.assertEqual(told, [triple == PPP, True])

    def test_wrong_arguments(self):
        words = [None, "", "Left", "ahead", ["left"], True, ("left",), {}]
        triples = [None, [], "ppp", ["p", "p", "p"], ("p", "p"), ("p", "p", "x"), ("p", "p", None), ("p", ["p"], "p"), {}, ("p",) * 4]
        check_errors(self, triple_terms, [stop_book(), "left", PPP], [
            (InvalidBook, odd_objects() + [stop_rule()]), (InvalidWord, words), (InvalidTriples, triples),
        ])
        last = Kinds(table("ab", lambda x, y: "b"), table("ab", lambda x, y: x))
        book = Book(Rule(last, [], []), {"x": "a", "y": "b"})
        triple_terms(book, "right", ("a", "a", "a"))
        with self.assertRaises(InvalidTriples):
            triple_terms(book, "left", ("a", "a", "a"))
        for function in (own_tuples, own_size, own_world):
            check_errors(self, function, [stop_rule()], [(InvalidRule, odd_objects() + [stop_kinds(), stop_book()])])
        check_errors(self, own_inputs, [stop_book()], [(InvalidBook, odd_objects() + [stop_rule()])])
        own_inputs(stop_book()).clear()
        self.assertEqual(len(own_inputs(stop_book())), 6)
        self.assertEqual(own_size(whole_rule(one_kind())), 3)


if __name__ == "__main__":
    unittest.main()
