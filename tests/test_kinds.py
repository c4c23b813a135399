"""[10] to [13]: Kinds, and [1], [2] as far as they speak of them."""

import unittest

from kindspreads.errors import InvalidKind, InvalidKinds, InvalidMap, InvalidTable, InvalidTerms
from kindspreads.kinds import Kinds, can_be_left, can_be_right, is_plus_table, is_times_table, opposite, product_kind
from kindspreads.kinds import renamed, sum_kind
from kindspreads.rules import Rule
from tests.helper import check_errors, odd_objects, one_kind, rows_over, stop_kinds, stop_table, table, three_kinds

FIRST = {("a", "a"): "a", ("a", "b"): "a", ("b", "a"): "b", ("b", "b"): "b"}
GREATEST = {("a", "a"): "a", ("a", "b"): "b", ("b", "a"): "b", ("b", "b"): "b"}
UNBRACKETED = {("a", "a"): "b", ("a", "b"): "a", ("b", "a"): "b", ("b", "b"): "b"}

NO_TABLES = odd_objects() + [
    UNBRACKETED,
    {("a", "a"): "b"},
    {("a", "a"): "a", ("b", "b"): "b"},
    {("a", "a"): "a", ("a", "b"): "a", ("b", "a"): "a"},
    {("a", "a", "a"): "a"},
    {("a", None): "a"},
    {(None, "a"): "a"},
    {("a", "a"): ["a"]},
    {("a", "a"): ("a",)},
    {("a", "a"): None},
    {("A", "A"): "A"},
    {("", ""): ""},
    {("ninewords", "ninewords"): "ninewords"},
    {(True, True): True},
    {"aa": "a"},
    {("a", "a"): "a", None: "a"},
    [[("a", "a"), "a"]],
    (("a", "a"), "a"),
]


class TablesTest(unittest.TestCase):
    def test_tables_of_one_two_and_three_kinds(self):
        for good in ({("p", "p"): "p"}, stop_table(), stop_table("pvw"), GREATEST):
            self.assertIs(is_plus_table(good), True)
            self.assertIs(is_times_table(good), True)

    def test_words_have_one_to_eight_letters(self):
        self.assertTrue(is_plus_table({("abcdefgh", "abcdefgh"): "abcdefgh"}))
        self.assertTrue(is_plus_table(table(["z", "zz"], lambda x, y: "zz")))

    def test_times_tables_need_not_let_turn_about(self):
        self.assertIs(is_times_table(FIRST), True)
        self.assertIs(is_plus_table(FIRST), False)

    def test_other_objects_are_no_tables(self):
        for value in NO_TABLES:
            self.assertIs(is_plus_table(value), False, value)
            self.assertIs(is_times_table(value), False, value)

    def test_all_tables_of_two_kinds_by_going_through_all(self):
        pairs = [("a", "a"), ("a", "b"), ("b", "a"), ("b", "b")]
        for row in rows_over("ab", 4):
            t = dict(zip(pairs, row))
            flat = all(t[(t[(x, y)], z)] == t[(x, t[(y, z)])] for x in "ab" for y in "ab" for z in "ab")
            self.assertIs(is_times_table(t), flat, t)
            self.assertIs(is_plus_table(t), flat and t[("a", "b")] == t[("b", "a")], t)


class KindsTest(unittest.TestCase):
    def test_example(self):
        both = dict([((x, y), "p" if x == y == "p" else "w") for x in "pvw" for y in "pvw"])
        stop = Kinds(both, both)
        self.assertEqual(stop.words(), ["p", "v", "w"])
        self.assertEqual([stop.add("p", "p"), stop.multiply("v", "p")], ["p", "w"])
        self.assertEqual([sum_kind(stop, ["p", "v", "p"]), product_kind(stop, ["p", "p"])], ["w", "p"])
        self.assertEqual(len(can_be_left(stop)), 27)
        ahead = Kinds(GREATEST, FIRST)
        self.assertEqual([ahead.multiply("a", "b"), opposite(ahead).multiply("a", "b")], ["a", "b"])
        self.assertEqual(renamed(ahead, {"a": "b", "b": "a"}).add("a", "b"), "a")
        last = Kinds({("a", "a"): "b", ("a", "b"): "b", ("b", "a"): "b", ("b", "b"): "b"}, FIRST)
        self.assertEqual(can_be_left(last), [("b", "a", "a"), ("b", "a", "b"), ("b", "b", "a"), ("b", "b", "b")])
        self.assertEqual(can_be_right(last), can_be_left(ahead))

    def test_tables_and_words_are_told_ascending(self):
        turned = {key: GREATEST[key] for key in reversed(list(GREATEST))}
        kinds = Kinds(plus=turned, times={key: FIRST[key] for key in reversed(list(FIRST))})
        self.assertEqual(list(kinds.plus().items()), sorted(GREATEST.items()))
        self.assertEqual(list(kinds.times().items()), sorted(FIRST.items()))
        self.assertEqual(kinds.words(), ["a", "b"])

    def test_add_and_multiply_go_by_the_tables(self):
        kinds = Kinds(GREATEST, FIRST)
        for x in "ab":
            for y in "ab":
                self.assertEqual(kinds.add(first=x, second=y), GREATEST[(x, y)])
                self.assertEqual(kinds.multiply(first=x, second=y), FIRST[(x, y)])

    def test_equality(self):
        kinds = Kinds(GREATEST, FIRST)
        turned = {key: GREATEST[key] for key in reversed(list(GREATEST))}
        self.assertTrue(kinds == Kinds(turned, FIRST))
        self.assertFalse(kinds != Kinds(turned, FIRST))
        self.assertFalse(kinds == Kinds(GREATEST, GREATEST))
        self.assertFalse(Kinds(GREATEST, FIRST) == opposite(kinds))
        self.assertFalse(Kinds(table("ab", lambda x, y: "b"), FIRST) == kinds)
        for value in odd_objects() + [Rule(kinds, [], [])]:
            self.assertFalse(kinds == value)
            self.assertTrue(kinds != value)

    def test_wrong_tables(self):
        other_kinds = [stop_table(), {("a", "a"): "a"}, stop_table("pvw")]
        check_errors(self, Kinds, [GREATEST, FIRST], [
            (InvalidTable, NO_TABLES + [FIRST]),
            (InvalidTable, NO_TABLES + other_kinds),
        ])

    def test_wrong_kinds_to_add_and_multiply(self):
        kinds = Kinds(GREATEST, FIRST)
        wrong = odd_objects() + ["c", "p", "aa"]
        check_errors(self, kinds.add, ["a", "b"], [(InvalidKind, wrong)] * 2)
        check_errors(self, kinds.multiply, ["a", "b"], [(InvalidKind, wrong)] * 2)

    def test_what_is_passed_and_returned_may_be_changed(self):
        plus, times = dict(GREATEST), dict(FIRST)
        kinds = Kinds(plus, times)
        plus[("a", "a")] = "b"
        times.clear()
        kinds.plus().clear()
        kinds.times()[("a", "b")] = "b"
        kinds.words().append("c")
        self.assertEqual([kinds.plus(), kinds.times(), kinds.words()], [GREATEST, FIRST, ["a", "b"]])
        can_be_left(kinds).clear()
        can_be_right(kinds).clear()
        self.assertEqual([len(can_be_left(kinds)), len(can_be_right(kinds))], [8, 8])


class RowsTest(unittest.TestCase):
    def test_rows_are_put_together_in_their_order(self):
        kinds = Kinds(GREATEST, FIRST)
        for length in (1, 2, 3, 4):
            for row in rows_over("ab", length):
                self.assertEqual(sum_kind(kinds, row), max(row))
                self.assertEqual(product_kind(kinds=kinds, row=row), row[0])
                self.assertEqual(product_kind(opposite(kinds), row), row[-1])

    def test_one_alone_is_its_own(self):
        self.assertEqual([sum_kind(one_kind(), ["p"]), product_kind(one_kind(), ["p"] * 60)], ["p", "p"])

    def test_the_row_stays(self):
        row = ["a", "b", "a"]
        sum_kind(Kinds(GREATEST, FIRST), row)
        self.assertEqual(row, ["a", "b", "a"])

    def test_wrong_arguments(self):
        wrong_rows = [None, [], ("a",), "a", ["c"], ["a", "c"], ["a", None], [["a"]], {"a": "a"}, [True], [("a",)]]
        for function in (sum_kind, product_kind):
            check_errors(self, function, [Kinds(GREATEST, FIRST), ["a"]], [
                (InvalidKinds, odd_objects()),
                (InvalidTerms, wrong_rows),
            ])


class ExchangedTest(unittest.TestCase):
    def test_opposite(self):
        kinds = Kinds(GREATEST, FIRST)
        turned = opposite(kinds)
        self.assertEqual(turned.plus(), GREATEST)
        self.assertEqual(turned.times(), {(x, y): FIRST[(y, x)] for x, y in FIRST})
        self.assertEqual(opposite(turned), kinds)
        self.assertEqual(opposite(stop_kinds()), stop_kinds())

    def test_renamed(self):
        kinds = Kinds(GREATEST, FIRST)
        sent = renamed(kinds=kinds, sent={"b": "a", "a": "longname"})
        self.assertEqual(sent.words(), ["a", "longname"])
        self.assertEqual([sent.add("longname", "a"), sent.add("longname", "longname")], ["a", "longname"])
        self.assertEqual([sent.multiply("longname", "a"), sent.multiply("a", "longname")], ["longname", "a"])
        self.assertEqual(renamed(sent, {"longname": "a", "a": "b"}), kinds)
        self.assertEqual(renamed(kinds, {"a": "a", "b": "b"}), kinds)

    def test_wrong_arguments(self):
        kinds = Kinds(GREATEST, FIRST)
        check_errors(self, opposite, [kinds], [(InvalidKinds, odd_objects())])
        wrong = [None, {}, {"a": "b"}, {"a": "x", "b": "x"}, {"a": "x", "b": "Y"}, {"a": "x", "b": None},
                 {"a": "x", "b": ["y"]}, {"a": "x", "b": "y", "c": "z"}, {"a": "x", "c": "y"}, [("a", "x"), ("b", "y")],
                 {"a": "x", True: "y"}, {"a": "x", ("b",): "y"}, {"a": "x", "b": ""}, "ab", ["x", "y"], True]
        check_errors(self, renamed, [kinds, {"a": "x", "b": "y"}], [(InvalidKinds, odd_objects()), (InvalidMap, wrong)])

    def test_the_map_stays(self):
        sent = {"b": "x", "a": "y"}
        renamed(Kinds(GREATEST, FIRST), sent)
        self.assertEqual(list(sent.items()), [("b", "x"), ("a", "y")])


class CanBeTest(unittest.TestCase):
    def test_by_the_tables(self):
        last = Kinds(table("ab", lambda x, y: "b"), FIRST)
        for kinds in (last, Kinds(GREATEST, FIRST), opposite(last), stop_kinds("pvw"), three_kinds(), one_kind()):
            words = kinds.words()
            left, right = [], []
            for a in words:
                for b in words:
                    for c in words:
                        whole = kinds.multiply(a, kinds.add(b, c))
                        if whole == kinds.add(kinds.multiply(a, b), kinds.multiply(a, c)):
                            left.append((a, b, c))
                        whole = kinds.multiply(kinds.add(b, c), a)
                        if whole == kinds.add(kinds.multiply(b, a), kinds.multiply(c, a)):
                            right.append((b, c, a))
            self.assertEqual(can_be_left(kinds), sorted(left))
            self.assertEqual(can_be_right(kinds), sorted(right))

    def test_the_sides_are_unlike(self):
        last = Kinds(table("ab", lambda x, y: "b"), FIRST)
        self.assertEqual([len(can_be_left(last)), len(can_be_right(last))], [4, 8])
        self.assertEqual(can_be_right(opposite(last)), [("a", "a", "b"), ("a", "b", "b"), ("b", "a", "b"), ("b", "b", "b")])

    def test_wrong_arguments(self):
        check_errors(self, can_be_left, [one_kind()], [(InvalidKinds, odd_objects())])
        check_errors(self, can_be_right, [one_kind()], [(InvalidKinds, odd_objects())])


if __name__ == "__main__":
    unittest.main()
