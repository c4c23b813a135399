"""[14] to [18]: rules, and [1], [2] as far as they speak of them."""

import unittest

from kindspreads.errors import InvalidKinds, InvalidMap, InvalidRule, InvalidTriples, InvalidWord, Unlike
from kindspreads.kinds import Kinds, can_be_left, can_be_right, opposite, renamed
from kindspreads.rules import Rule, both_ways, is_parting_triple, is_within, meet_rule, mirrored_rule, parting_triple
from kindspreads.rules import renamed_rule, rule_with, rule_without, union_rule, whole_rule
from tests.helper import PPP, check_errors, odd_objects, one_kind, stop_kinds, stop_rule, table, three_kinds

MIXED_LEFT = [("p", "p", "p"), ("p", "p", "w"), ("p", "w", "p")]
MIXED_RIGHT = [("p", "p", "w"), ("p", "w", "p"), ("w", "p", "p")]

# In these tables only some triples hold: left ones with the block "b".
LAST = Kinds(table("ab", lambda x, y: "b"), {(x, y): x for x in "ab" for y in "ab"})

NO_TRIPLES = [
    None, True, (), (PPP,), {}, {PPP: True}, "ppp", [["p", "p", "p"]], [("p", "p")], [("p", "p", "p", "p")],
    [("p", "p", None)], [("p", "p", "v")], [("p", "p", ["p"])], [("p", "p", True)], ["ppp"], [PPP, None], [[PPP]],
    [("", "p", "p")], [stop_kinds()],
]
OUT_OF_FORM_LEFT = NO_TRIPLES + [
    [PPP, PPP], [("p", "p", "w"), ("p", "p", "p"), ("p", "w", "p")], [("p", "p", "w")], [("p", "w", "p")],
    [("p", "w", "p"), ("p", "p", "w")],
]
OUT_OF_FORM_RIGHT = NO_TRIPLES + [
    [PPP, PPP], [("w", "p", "p"), ("p", "w", "p")], [("p", "w", "w")], [("w", "p", "p")],
    [("p", "w", "p"), ("p", "p", "p"), ("w", "p", "p")],
]


def mixed():
    return Rule(stop_kinds(), MIXED_LEFT, MIXED_RIGHT)


class RuleTest(unittest.TestCase):
    def test_example(self):
        two = stop_kinds()
        stop, part = Rule(two, [PPP], [PPP]), Rule(two, [PPP], [])
        self.assertEqual(both_ways(two, "left", [("w", "w", "p")]), [("w", "p", "w"), ("w", "w", "p")])
        self.assertEqual(both_ways(two, "right", [("w", "p", "p")]), [("p", "w", "p"), ("w", "p", "p")])
        self.assertEqual([is_within(part, stop), meet_rule(part, stop) == part], [True, True])
        self.assertEqual([union_rule(part, stop) == stop, rule_without(stop, [], [PPP]) == part], [True, True])
        self.assertEqual(len(whole_rule(two).left()), 8)
        self.assertEqual([mirrored_rule(part).right(), mirrored_rule(mirrored_rule(part)) == part], [[PPP], True])
        self.assertEqual(parting_triple(part, stop), ("right", PPP))
        self.assertIs(is_parting_triple(part, stop, ("left", PPP)), False)

    def test_a_rule_tells_what_it_is_made_of(self):
        rule = Rule(kinds=stop_kinds(), left=MIXED_LEFT, right=MIXED_RIGHT)
        self.assertEqual([rule.kinds(), rule.left(), rule.right()], [stop_kinds(), MIXED_LEFT, MIXED_RIGHT])
        for kinds in (stop_kinds(), one_kind(), three_kinds()):
            empty = Rule(kinds, [], [])
            self.assertEqual([empty.left(), empty.right(), empty.kinds()], [[], [], kinds])

    def test_equality(self):
        self.assertTrue(mixed() == mixed())
        self.assertFalse(mixed() != mixed())
        others = [Rule(stop_kinds(), MIXED_LEFT, []), Rule(stop_kinds(), [], MIXED_RIGHT)]
        others += [Rule(stop_kinds("pvw"), MIXED_LEFT, MIXED_RIGHT), mixed().kinds(), None, (mixed(),), 1]
        for other in others:
            self.assertFalse(mixed() == other)
            self.assertTrue(mixed() != other)

    def test_wrong_arguments(self):
        check_errors(self, Rule, [stop_kinds(), MIXED_LEFT, MIXED_RIGHT], [
            (InvalidKinds, odd_objects() + [stop_rule()]),
            (InvalidTriples, OUT_OF_FORM_LEFT),
            (InvalidTriples, OUT_OF_FORM_RIGHT),
        ])

    def test_triples_must_hold_in_the_tables(self):
        Rule(LAST, [("b", "a", "a"), ("b", "b", "b")], [("a", "a", "a")])
        for triple in (("a", "a", "a"), ("a", "b", "b")):
            with self.assertRaises(InvalidTriples):
                Rule(LAST, [triple], [])
            Rule(LAST, [], [triple[1:] + triple[:1]])
        with self.assertRaises(InvalidTriples):
            Rule(opposite(LAST), [], [("a", "a", "a")])

    def test_what_is_passed_and_returned_may_be_changed(self):
        left, right = list(MIXED_LEFT), list(MIXED_RIGHT)
        rule = Rule(stop_kinds(), left, right)
        left.clear()
        right.pop()
        rule.left().clear()
        rule.right().append(PPP)
        self.assertEqual([rule.left(), rule.right()], [MIXED_LEFT, MIXED_RIGHT])
        self.assertEqual(rule, mixed())


class BothWaysTest(unittest.TestCase):
    def test_any_order_and_doubles(self):
        two = stop_kinds()
        row = [("w", "w", "p"), PPP, ("p", "w", "p"), PPP]
        told = [PPP, ("p", "p", "w"), ("p", "w", "p"), ("w", "p", "w"), ("w", "w", "p")]
        self.assertEqual(both_ways(kinds=two, word="left", triples=row), told)
        self.assertEqual(row, [("w", "w", "p"), PPP, ("p", "w", "p"), PPP])
        told = [PPP, ("p", "w", "p"), ("w", "p", "p"), ("w", "w", "p")]
        self.assertEqual(both_ways(two, "right", row), told)
        self.assertEqual([both_ways(two, "left", []), both_ways(two, "right", [])], [[], []])

    def test_each_makes_a_rule(self):
        for kinds in (LAST, three_kinds(), one_kind()):
            for word, triples in (("left", can_be_left(kinds)), ("right", can_be_right(kinds))):
                for triple in triples:
                    told = both_ways(kinds, word, [triple])
                    rule = Rule(kinds, told, []) if word == "left" else Rule(kinds, [], told)
                    self.assertIn(triple, rule.left() + rule.right())
                    self.assertEqual(len(told), len(set(told)))

    def test_wrong_arguments(self):
        check_errors(self, both_ways, [stop_kinds(), "left", [PPP]], [
            (InvalidKinds, odd_objects()),
            (InvalidWord, odd_objects() + ["Left", "ahead", "lef", ["left"], ("left",)]),
            (InvalidTriples, NO_TRIPLES),
        ])
        both_ways(LAST, "right", [("a", "a", "a")])
        with self.assertRaises(InvalidTriples):
            both_ways(LAST, "left", [("a", "a", "a")])


class WholeRuleTest(unittest.TestCase):
    def test_all_triples(self):
        for kinds in (LAST, opposite(LAST), three_kinds(), one_kind(), stop_kinds()):
            whole = whole_rule(kinds)
            self.assertEqual([whole.kinds(), whole.left(), whole.right()], [kinds, can_be_left(kinds), can_be_right(kinds)])
        self.assertEqual(len(whole_rule(three_kinds()).right()), 27)

    def test_wrong_arguments(self):
        check_errors(self, whole_rule, [one_kind()], [(InvalidKinds, odd_objects())])


class MoreAndLessTest(unittest.TestCase):
    def test_with_and_without(self):
        rule = rule_with(rule=stop_rule(), left=[("p", "p", "w"), ("p", "w", "p")], right=[PPP])
        self.assertEqual([rule.left(), rule.right()], [MIXED_LEFT, [PPP]])
        self.assertEqual(rule_without(rule=rule, left=[("p", "p", "w"), ("p", "w", "p")], right=[]), stop_rule())
        self.assertEqual(rule_without(rule, [("w", "w", "w")], [("w", "w", "w")]), rule)
        self.assertEqual(rule_with(rule, MIXED_LEFT, [PPP]), rule)
        self.assertEqual(rule_with(rule, [], []), rule)
        self.assertEqual(rule_without(rule, rule.left(), rule.right()), Rule(stop_kinds(), [], []))

    def test_the_rule_and_the_lists_stay(self):
        rule, left, right = mixed(), [PPP], [("w", "w", "w")]
        rule_with(rule, left, right)
        rule_without(rule, left, right)
        self.assertEqual([rule, left, right], [mixed(), [PPP], [("w", "w", "w")]])

    def test_wrong_arguments(self):
        for function in (rule_with, rule_without):
            check_errors(self, function, [stop_rule(), [PPP], [PPP]], [
                (InvalidRule, odd_objects() + [stop_kinds()]),
                (InvalidTriples, OUT_OF_FORM_LEFT),
                (InvalidTriples, OUT_OF_FORM_RIGHT),
            ])

    def test_meet_union_and_within(self):
        one = Rule(stop_kinds(), MIXED_LEFT, [])
        other = Rule(stop_kinds(), [PPP, ("w", "w", "w")], [PPP])
        meet, union = meet_rule(one=one, other=other), union_rule(one=one, other=other)
        self.assertEqual([meet.left(), meet.right()], [[PPP], []])
        self.assertEqual([union.left(), union.right()], [MIXED_LEFT + [("w", "w", "w")], [PPP]])
        self.assertEqual([meet_rule(other, one), union_rule(other, one)], [meet, union])
        self.assertIs(is_within(one=meet, other=one), True)
        self.assertIs(is_within(one, other), False)
        self.assertIs(is_within(other, one), False)
        self.assertIs(is_within(Rule(stop_kinds(), [], [PPP]), Rule(stop_kinds(), [PPP], [])), False)
        self.assertIs(is_within(union, union), True)
        self.assertIs(is_within(Rule(stop_kinds(), [], []), meet), True)

    def test_wrong_rules(self):
        unlike = [Rule(one_kind(), [PPP], [PPP]), Rule(stop_kinds("pvw"), [PPP], [PPP]), whole_rule(LAST)]
        for function in (meet_rule, union_rule, is_within):
            check_errors(self, function, [mixed(), stop_rule()], [(InvalidRule, odd_objects())] * 2)
            check_errors(self, function, [mixed(), stop_rule()], [(InvalidRule, [None, 1]), (Unlike, unlike)])


class SentTest(unittest.TestCase):
    def test_mirrored(self):
        turned = mirrored_rule(rule=mixed())
        self.assertEqual(turned.left(), [("p", "p", "w"), ("p", "w", "p"), ("w", "p", "p")])
        self.assertEqual(turned.right(), [("p", "p", "p"), ("p", "w", "p"), ("w", "p", "p")])
        self.assertEqual(mirrored_rule(turned), mixed())
        whole = whole_rule(LAST)
        self.assertEqual(mirrored_rule(whole), whole_rule(opposite(LAST)))
        self.assertEqual(mirrored_rule(whole).kinds().multiply("a", "b"), "b")

    def test_renamed(self):
        rule = renamed_rule(rule=mixed(), sent={"p": "w", "w": "n"})
        self.assertEqual(rule.kinds(), renamed(stop_kinds(), {"p": "w", "w": "n"}))
        self.assertEqual(rule.left(), [("w", "n", "w"), ("w", "w", "n"), ("w", "w", "w")])
        self.assertEqual(rule.right(), [("n", "w", "w"), ("w", "n", "w"), ("w", "w", "n")])
        self.assertEqual(renamed_rule(rule, {"w": "p", "n": "w"}), mixed())
        swapped = renamed_rule(mixed(), {"p": "w", "w": "p"})
        self.assertEqual([swapped.kinds().add("w", "p"), swapped.left()[0]], ["p", ("w", "p", "w")])

    def test_wrong_arguments(self):
        check_errors(self, mirrored_rule, [mixed()], [(InvalidRule, odd_objects())])
        wrong = [None, {}, {"p": "x"}, {"p": "x", "w": "x"}, {"p": "x", "w": 1}, {"p": "x", "w": "y", "v": "z"}, []]
        check_errors(self, renamed_rule, [mixed(), {"p": "x", "w": "y"}], [
            (InvalidRule, odd_objects()),
            (InvalidMap, wrong),
        ])


class PartingTripleTest(unittest.TestCase):
    def test_any_one_is_a_parting_triple(self):
        empty = Rule(stop_kinds(), [], [])
        rules = [empty, stop_rule(), mixed(), whole_rule(stop_kinds()), Rule(stop_kinds(), MIXED_LEFT, [])]
        for one in rules:
            for other in rules:
                found = parting_triple(one=one, other=other)
                self.assertIs(found is None, one == other)
                self.assertIs(is_parting_triple(one=one, other=other, value=found), one != other)

    def test_just_those_in_one_rule(self):
        part = Rule(stop_kinds(), [PPP], [])
        for one, other in ((part, mixed()), (mixed(), part)):
            told = []
            for word, triples in (("left", can_be_left(stop_kinds())), ("right", can_be_right(stop_kinds()))):
                told += [(word, triple) for triple in triples if is_parting_triple(one, other, (word, triple))]
            right = [("right", triple) for triple in MIXED_RIGHT]
            self.assertEqual(told, [("left", ("p", "p", "w")), ("left", ("p", "w", "p"))] + right)

    def test_other_objects_are_none(self):
        part = Rule(stop_kinds(), [PPP], [])
        values = odd_objects() + [["right", PPP], ("right", list(PPP)), ("right",), PPP, ("right", PPP, PPP),
                                  ("left", ("p", "p", "v")), ("ahead", PPP), (stop_rule(), PPP), ("right", stop_kinds())]
        for value in values:
            self.assertIs(is_parting_triple(part, stop_rule(), value), False, value)
            self.assertIs(is_parting_triple(part, part, value), False, value)
        self.assertIs(is_parting_triple(part, stop_rule(), ("right", PPP)), True)

    def test_wrong_arguments(self):
        unlike = [Rule(one_kind(), [PPP], [PPP]), whole_rule(LAST)]
        check_errors(self, parting_triple, [mixed(), stop_rule()], [(InvalidRule, odd_objects())] * 2)
        check_errors(self, parting_triple, [mixed(), stop_rule()], [(InvalidRule, [1]), (Unlike, unlike)])
        good = [mixed(), stop_rule(), None]
        check_errors(self, is_parting_triple, good, [(InvalidRule, odd_objects())] * 2 + [(None, [None])])
        check_errors(self, is_parting_triple, good, [(InvalidRule, [1]), (Unlike, unlike), (None, [None])])


if __name__ == "__main__":
    unittest.main()
