"""[79] to [85]: worlds of values, and [1] to [4] as far as they speak of them."""

import unittest
from itertools import product

from kindspreads.errors import InvalidBook, InvalidHolding, InvalidInputs, InvalidKinds, InvalidRule, InvalidTable
from kindspreads.errors import InvalidTerm, InvalidTerms, InvalidTriples, InvalidWord, InvalidWorld, Unlike
from kindspreads.kin import are_kin
from kindspreads.kinds import Kinds, can_be_left, can_be_right, opposite
from kindspreads.rules import Rule, rule_with, whole_rule
from kindspreads.terms import Book, mirrored_book, mirrored_term, term_of
from kindspreads.valued import World, alike_terms, are_inputs, are_parting_inputs, are_parting_values, fits, mirrored_world
from kindspreads.valued import parting_inputs, parting_values, rule_of, same_always, value_of
from tests import naive
from tests.books import stop_book
from tests.helper import PPP, check_errors, odd_objects, one_kind, stop_kinds, stop_rule, stop_table, table
from tests.test_terms import NO_TERMS


def shares():
    """The document's world: pence that stop at two, and shares of them; "no" is what nobody wants."""
    pence, names, values = {"zero": 0, "one": 1, "two": 2}, ["zero", "one", "two"], ["half", "no", "one", "part", "two", "zero"]
    put = {(x, y): names[min(2, pence[x] + pence[y])] if x in pence and y in pence else "no" for x in values for y in values}
    halves = {x: names[pence[x] // 2] for x in names}
    share = {}
    for x, y in product(values, values):
        if "no" in (x, y):
            share[(x, y)] = "no"
        elif x not in pence and y not in pence:
            share[(x, y)] = "part"
        else:
            share[(x, y)] = halves[y] if x == "half" else halves[x] if y == "half" else "zero"
    plus = table("nps", lambda a, b: "p" if a + b == "pp" else "n")
    times = table("nps", lambda a, b: "n" if "n" in a + b else "s" if a + b == "ss" else "p")
    return World(put, share, Kinds(plus, times), {"n": ["no"], "p": ["one", "two", "zero"], "s": ["half", "part"]})


def letters():
    """Two kinds of letters and one of no kind: sums are the lesser letter, products the first one."""
    lesser, first = table("uvxyz", min), table("uvxyz", lambda x, y: x)
    kinds = Kinds(table("ab", min), table("ab", lambda x, y: x))
    return World(lesser, first, kinds, {"a": ["u", "v"], "b": ["x", "y"]})


def cut():
    """Numbers of one and of two steps that stop at three, all of one kind; the three is of the other kind, too."""
    steps = {"one": 1, "three": 3, "two": 2}
    words = {number: word for word, number in steps.items()}
    put = {(x, y): words[min(3, steps[x] + steps[y])] for x in steps for y in steps}
    times = {(x, y): words[min(3, steps[x] * steps[y])] for x in steps for y in steps}
    return World(put, times, stop_kinds(), {"p": ["one", "three", "two"], "w": ["three"]})


def worlds():
    alone = World({("v", "v"): "v"}, {("v", "v"): "v"}, one_kind(), {"p": ["v"]})
    return [shares(), letters(), cut(), alone, mirrored_world(letters()), World(
        table("uv", max), table("uv", min), one_kind(), {"p": ["u", "v"]})]


def spreads_with(world, word, row):
    """Whether three values, in the order of a triple of a side, spread."""
    plus, times = world.plus(), world.times()
    if word == "left":
        x, y, z = row
        return times[(x, plus[(y, z)])] == plus[(times[(x, y)], times[(x, z)])]
    y, z, x = row
    return times[(plus[(y, z)], x)] == plus[(times[(y, x)], times[(z, x)])]


def triples_of(world):
    kinds = world.kinds()
    return [("left", triple) for triple in can_be_left(kinds)] + [("right", triple) for triple in can_be_right(kinds)]


def value(world, book, inputs, term):
    if isinstance(term, str):
        return inputs[term]
    made = value(world, book, inputs, term[1])
    for part in term[2:]:
        made = (world.plus() if term[0] == "sum" else world.times())[(made, value(world, book, inputs, part))]
    return made


def all_inputs(world, book):
    things = book.things()
    return [dict(zip(things, row)) for row in product(*[world.holding()[kind] for kind in things.values()])]


def books_in():
    """Pairs of a world and a book over its Kinds."""
    told = [(shares(), Book(rule_of(shares()), {"a": "p", "h": "s", "n": "n"})), (letters(), Book(rule_of(letters()), {"a": "a", "b": "b"}))]
    told += [(cut(), Book(rule_of(cut()), {"a": "p", "m": "w"})), (cut(), Book(Rule(stop_kinds(), [], []), {"a": "p", "m": "w"}))]
    return told


class WorldTest(unittest.TestCase):
    def test_example(self):
        world = shares()
        self.assertIs(are_parting_values(world, "left", ("s", "p", "p"), ("half", "one", "one")), True)
        self.assertIs(parting_values(world, "left", PPP), None)
        rule = rule_of(world)
        self.assertEqual([len(rule.left()), ("s", "p", "p") in rule.left()], [23, False])
        self.assertEqual([fits(world, rule), fits(world, Rule(world.kinds(), [("s", "p", "p")], []))], [True, False])

    def test_what_it_is_made_of(self):
        plus, times, holding = table("vu", max), table("vu", lambda x, y: "v"), {"w": ["v"], "p": ["u", "v"]}
        world = World(plus=plus, times=times, kinds=stop_kinds(), holding=holding)
        self.assertEqual([world.plus(), world.times(), world.holding()], [plus, times, holding])
        self.assertEqual([list(world.plus()), list(world.times())], [sorted(plus), sorted(times)])
        self.assertEqual([list(world.holding()), world.words(), world.kinds()], [["p", "w"], ["u", "v"], stop_kinds()])

    def test_changing_what_was_passed_or_returned_changes_nothing(self):
        plus, times, holding = table("vu", max), table("vu", lambda x, y: "v"), {"w": ["v"], "p": ["u", "v"]}
        world, other = [World(plus, times, stop_kinds(), holding) for _ in range(2)]
        holding["p"].clear()
        holding.clear()
        for changed in (plus, times, world.plus(), world.times(), world.words(), world.holding(), world.holding()["p"]):
            changed.clear()
        self.assertEqual(world, other)
        self.assertEqual([world.holding(), world.words(), len(world.plus())], [{"p": ["u", "v"], "w": ["v"]}, ["u", "v"], 4])
        self.assertIs(are_inputs(world, Book(Rule(stop_kinds(), [], []), {"a": "p", "m": "w"}), {"a": "u", "m": "v"}), True)

    def test_equal(self):
        plus, times, holding = table("uv", max), table("uv", min), {"p": ["u"]}
        world = World(plus, plus, one_kind(), holding)
        self.assertTrue(world == World(dict(list(plus.items())[::-1]), plus, one_kind(), holding))
        others = [World(times, plus, one_kind(), {"p": ["u"]}), World(plus, times, one_kind(), holding)]
        others += [World(plus, plus, one_kind(), {"p": ["u", "v"]}), World(plus, plus, Kinds({("k", "k"): "k"}, {("k", "k"): "k"}), {"k": ["u"]})]
        for other in others + odd_objects() + [plus, stop_rule()]:
            self.assertFalse(world == other)
            self.assertTrue(world != other)

    def test_wrong_tables(self):
        good = [table("uv", max), table("uv", min), one_kind(), {"p": ["u", "v"]}]
        first, less = table("uv", lambda x, y: x), {("u", "u"): "u", ("u", "v"): "u", ("v", "u"): "u"}
        loose = {("u", "u"): "v", ("u", "v"): "u", ("v", "u"): "v", ("v", "v"): "u"}
        odd = odd_objects() + [less, loose, {("u", "v"): "u"}, {("u", "u"): "v"}, {("U", "U"): "U"}]
        holdings = [None, {}, [], {"p": []}, {"p": ("u", "v")}, {"p": ["v", "u"]}, {"p": ["u", "u"]}, {"p": ["x"]}, {"w": ["u"]}]
        holdings += [{"p": ["u"], "w": ["u"]}, {"p": "uv"}, {"p": [None]}, {"p": [["u"]]}, {"p": {"u": 1}}, {True: ["u"]}, [("p", ["u"])]]
        check_errors(self, World, good, [
            (InvalidTable, odd + [first]),
            (InvalidTable, odd + [table("uvw", max), table("u", max), table("xy", max)]),
            (InvalidKinds, odd_objects()),
            (InvalidHolding, holdings),
        ])
        World(table("uv", max), first, one_kind(), {"p": ["u", "v"]})

    def test_values_must_keep_to_the_kinds(self):
        plus, times = table("uvw", max), table("uvw", min)
        World(plus, times, one_kind(), {"p": ["u", "w"]})
        drifting = table("uvw", lambda x, y: "w")
        for tables in ((drifting, times), (times, drifting)):
            for holding in ({"p": ["u"]}, {"p": ["u", "v"]}):
                with self.assertRaises(InvalidHolding) as caught:
                    World(*tables, one_kind(), holding)
                self.assertIs(caught.exception.value, holding)
        kinds = stop_kinds()
        World(plus, plus, kinds, {"p": ["u", "v"], "w": ["v", "w"]})
        World(plus, plus, kinds, {"p": ["u"], "w": ["w"]})
        with self.assertRaises(InvalidHolding):
            World(plus, plus, kinds, {"p": ["v"], "w": ["u", "w"]})

    def test_tables_of_many_values(self):
        words = ["v" + x + y for x in "abcdefghijk" for y in "abcdefghijk"]
        plus = {(x, y): max(x, y) for x in words for y in words}
        first = {(x, y): x for x in words for y in words}
        world = World(plus, first, one_kind(), {"p": words})
        self.assertEqual(rule_of(world), whole_rule(one_kind()))
        self.assertEqual(len(world.times()), 121 ** 2)
        plus[("vbb", "vcc")] = "vaa"
        with self.assertRaises(InvalidTable):
            World(plus, first, one_kind(), {"p": words})
        plus[("vcc", "vbb")] = "vaa"
        with self.assertRaises(InvalidTable):
            World(plus, first, one_kind(), {"p": words})


class SpreadingValuesTest(unittest.TestCase):
    def test_all_triples(self):
        for world in worlds():
            for word, triple in triples_of(world):
                rows = list(product(*[world.holding()[kind] for kind in triple]))
                parting = [row for row in rows if not spreads_with(world, word, row)]
                found = parting_values(world=world, word=word, triple=triple)
                self.assertTrue(found in parting if parting else found is None)
                for row in product(world.words(), repeat=3):
                    told = are_parting_values(world=world, word=word, triple=triple, value=row)
                    self.assertIs(told, row in parting)
                rule = Rule(world.kinds(), *self.lists_of(word, triple))
                both = [each for each in self.lists_of(word, triple) if each][0]
                self.assertIs(fits(world=world, rule=rule), all(parting_values(world, word, each) is None for each in both))

    def lists_of(self, word, triple):
        a, b, c = triple
        both = sorted({triple, (a, c, b) if word == "left" else (b, a, c)})
        return ([both, []] if word == "left" else [[], both])

    def test_the_rule_of_a_world(self):
        for world in worlds():
            rule = rule_of(world=world)
            self.assertEqual(rule.kinds(), world.kinds())
            for word, triple in triples_of(world):
                known = rule.left() if word == "left" else rule.right()
                self.assertIs(triple in known, parting_values(world, word, triple) is None)
            self.assertIs(fits(world, rule), True)
            self.assertIs(fits(world, Rule(world.kinds(), [], [])), True)

    def test_some_rules_do_not_fit(self):
        self.assertEqual([len(rule_of(cut()).left()), len(triples_of(cut()))], [8, 16])
        self.assertIs(fits(shares(), rule_with(Rule(shares().kinds(), [], []), [("s", "p", "p")], [])), False)

    def test_other_objects(self):
        good = ("half", "one", "one")
        self.assertIs(are_parting_values(shares(), "left", ("s", "p", "p"), good), True)
        wrong = [list(good), good[:2], good + ("one",), ("one", "half", "one"), ("half", "one", None), ("half", "one", "odd"), "abc"]
        for row in odd_objects() + wrong + [(["half"], "one", "one"), ({}, [], ())]:
            self.assertIs(are_parting_values(shares(), "left", ("s", "p", "p"), row), False)

    def test_wrong_arguments(self):
        words = [None, "", "Left", "ahead", ["left"], True, ("left",), {}]
        triples = [None, [], "ppp", ["p", "p", "p"], ("p", "p"), ("p", "p", "x"), ("p", "p", None), ("p", ["p"], "p"), {}]
        check_errors(self, parting_values, [shares(), "left", PPP], [(InvalidWorld, odd_objects()), (InvalidWord, words), (InvalidTriples, triples)])
        check_errors(self, are_parting_values, [shares(), "left", PPP, None], [
            (InvalidWorld, odd_objects()), (InvalidWord, words), (InvalidTriples, triples), (None, [None]),
        ])
        last = Kinds(table("ab", lambda x, y: "b"), table("ab", lambda x, y: x))
        world = World(table("ab", lambda x, y: "b"), table("ab", lambda x, y: x), last, {"a": ["a"], "b": ["b"]})
        self.assertIs(parting_values(world, "right", ("a", "a", "a")), None)
        with self.assertRaises(InvalidTriples):
            parting_values(world, "left", ("a", "a", "a"))
        check_errors(self, fits, [shares(), rule_of(shares())], [(InvalidWorld, odd_objects()), (InvalidRule, odd_objects() + [shares().kinds()])])
        check_errors(self, fits, [shares(), rule_of(shares())], [(InvalidWorld, odd_objects()), (Unlike, [stop_rule()])])
        for function in (rule_of, mirrored_world):
            check_errors(self, function, [shares()], [(InvalidWorld, odd_objects() + [stop_rule()])])


class ValuesOfTermsTest(unittest.TestCase):
    def test_inputs(self):
        book = Book(Rule(shares().kinds(), [], []), {"a": "p", "h": "s", "n": "n"})
        good = {"a": "one", "h": "half", "n": "no"}
        self.assertIs(are_inputs(world=shares(), book=book, value=good), True)
        self.assertIs(are_inputs(shares(), book, dict(list(good.items())[::-1])), True)
        wrong = [{"a": "one", "h": "half"}, {**good, "b": "one"}, {**good, "a": "half"}, {**good, "a": None}, {**good, "a": ["one"]}]
        wrong += [list(good.items()), {"a": "one", "h": "half", "x": "no"}, {**good, "h": "odd"}, {**good, "n": True}]
        for each in odd_objects() + wrong:
            self.assertIs(are_inputs(shares(), book, each), False)
        check_errors(self, value_of, [shares(), book, good, "a"], [
            (InvalidWorld, odd_objects()), (InvalidBook, odd_objects()), (InvalidInputs, odd_objects() + wrong), (InvalidTerm, NO_TERMS),
        ])
        self.assertIs(are_inputs(cut(), Book(stop_rule(), {"a": "p", "m": "w"}), {"a": "three", "m": "three"}), True)
        self.assertIs(are_inputs(letters(), Book(Rule(letters().kinds(), [], []), {"a": "a", "b": "b"}), {"a": "z", "b": "x"}), False)

    def test_values(self):
        for world, book in books_in():
            inputs = all_inputs(world, book)
            for term in naive.few_terms("".join(list(book.things())[:2]), 4):
                for each in inputs[::2]:
                    told = value_of(world=world, book=book, inputs=each, term=term)
                    self.assertEqual(told, value(world, book, each, term))
        book, world = Book(rule_of(shares()), {"a": "p", "h": "s", "n": "n"}), shares()
        self.assertEqual(value_of(world, book, {"a": "two", "h": "half", "n": "no"}, term_of("h (a + a) + h a")), "two")

    def test_same_for_all_inputs(self):
        alike = 0
        for world, book in books_in():
            inputs = all_inputs(world, book)
            terms = naive.few_terms("".join(list(book.things())[:2]), 4)
            for one in terms[::6]:
                for other in terms[::5] + naive.outcomes(book, one):
                    parting = [each for each in inputs if value(world, book, each, one) != value(world, book, each, other)]
                    self.check_same(world, book, one, other, inputs, parting)
                    if are_kin(book, one, other):
                        self.assertEqual(parting, [])
                    alike += 1 if not parting and not are_kin(book, one, other) else 0
        self.assertGreater(alike, 10)

    def check_same(self, world, book, one, other, inputs, parting):
        self.assertIs(same_always(world=world, book=book, one=one, other=other), parting == [])
        found = parting_inputs(world=world, book=book, one=one, other=other)
        self.assertTrue(found in parting if parting else found is None)
        if found is not None:
            self.assertEqual(set(found), set(book.things()))
        for each in inputs[::4] + [{}, None]:
            self.assertIs(are_parting_inputs(world=world, book=book, one=one, other=other, value=each), each in parting)

    def test_kinds_of_one_value_and_terms_that_are_alike_but_not_kin(self):
        world = World({("v", "v"): "v"}, {("v", "v"): "v"}, one_kind(), {"p": ["v"]})
        book = Book(Rule(one_kind(), [], []), {"a": "p", "b": "p"})
        self.assertEqual([same_always(world, book, "a", term_of("a b + b")), are_kin(book, "a", term_of("a b + b"))], [True, False])
        self.assertIs(parting_inputs(world, book, "a", "b"), None)
        self.assertEqual(alike_terms(world, book, ["a", "b", term_of("a b")]), [[0, 1, 2]])

    def test_other_things_do_not_matter(self):
        world = World(table("uvxyz", max), table("uvxyz", min), one_kind(), {"p": list("uvxyz")})
        book = Book(whole_rule(one_kind()), {thing: "p" for thing in "abcdefghi"})
        one, other = term_of("a (b + c)"), term_of("a b + a c")
        self.assertIs(same_always(world, book, one, other), True)
        found = parting_inputs(world, book, one, term_of("a b + c"))
        self.assertIs(are_inputs(world, book, found), True)
        self.assertIs(are_parting_inputs(world, book, one, term_of("a b + c"), found), True)
        self.assertEqual(alike_terms(world, book, [one, "a", other, term_of("a + a"), "b"]), [[0, 2], [1, 3], [4]])

    def test_alike_terms(self):
        for world, book in books_in():
            terms = naive.few_terms("".join(list(book.things())[:2]), 3)[::-1]
            found = alike_terms(world=world, book=book, terms=terms + terms[:2])
            places = sorted(place for row in found for place in row)
            self.assertEqual(places, list(range(len(terms) + 2)))
            self.assertEqual([row[0] for row in found], sorted(row[0] for row in found))
            where = {place: number for number, row in enumerate(found) for place in row}
            for row in found:
                self.assertEqual(row, sorted(row))
            for at, one in enumerate(terms):
                for place, other in enumerate(terms):
                    self.assertIs(where[at] == where[place], same_always(world, book, one, other))
            self.assertEqual(alike_terms(world, book, []), [])
            alike_terms(world, book, terms)[0].clear()
            self.assertEqual(alike_terms(world, book, terms)[0][0], 0)

    def test_wrong_arguments(self):
        world, book = cut(), Book(stop_rule(), {"a": "p", "b": "p", "m": "w"})
        head = [(InvalidWorld, odd_objects()), (InvalidBook, odd_objects() + [stop_rule()])]
        terms = [(InvalidTerm, NO_TERMS + ["z"]), (InvalidTerm, NO_TERMS + ["z"])]
        check_errors(self, are_inputs, [world, book, None], head + [(None, [None])])
        for function in (same_always, parting_inputs):
            check_errors(self, function, [world, book, "a", "b"], head + terms)
        check_errors(self, are_parting_inputs, [world, book, "a", "b", None], head + terms + [(None, [None])])
        lists = [None, True, (), ("a",), "a", {"a": "a"}, ["a", None], ["z"], [["a"]], [("sum", "b", "a")], [1]]
        check_errors(self, alike_terms, [world, book, ["a"]], head + [(InvalidTerms, lists)])

    def test_books_over_other_kinds(self):
        world, book = shares(), stop_book()
        head = [(InvalidWorld, odd_objects()), (Unlike, [book, stop_book()])]
        good = Book(rule_of(world), {"a": "p", "h": "s", "n": "n"})
        check_errors(self, value_of, [world, good, {"a": "one", "h": "half", "n": "no"}, "a"], head + [(InvalidInputs, [None]), (InvalidTerm, [None])])
        check_errors(self, are_inputs, [world, good, None], head + [(None, [None])])
        for function in (same_always, parting_inputs):
            check_errors(self, function, [world, good, "a", "a"], head + [(InvalidTerm, [None]), (InvalidTerm, [None])])
        check_errors(self, are_parting_inputs, [world, good, "a", "a", None], head + [(InvalidTerm, [None]), (InvalidTerm, [None]), (None, [None])])
        check_errors(self, alike_terms, [world, good, ["a"]], head + [(InvalidTerms, [None])])


class MirroredTest(unittest.TestCase):
    def test_times_turned_about(self):
        for world in worlds():
            turned = mirrored_world(world=world)
            self.assertEqual([turned.plus(), turned.holding(), turned.kinds()], [world.plus(), world.holding(), opposite(world.kinds())])
            self.assertEqual(turned.times(), {(y, x): made for (x, y), made in world.times().items()})
            self.assertEqual(mirrored_world(turned), world)
            for a, b, c in can_be_left(world.kinds()):
                left, right = parting_values(world, "left", (a, b, c)), parting_values(turned, "right", (b, c, a))
                self.assertIs(left is None, right is None)

    def test_values_of_mirrored_terms(self):
        for world, book in books_in():
            turned, other = mirrored_world(world), mirrored_book(book)
            for term in naive.few_terms("".join(list(book.things())[:2]), 4)[::4]:
                for inputs in all_inputs(world, book)[::3]:
                    told = value_of(turned, other, inputs, mirrored_term(book, term))
                    self.assertEqual(told, value_of(world, book, inputs, term))


class StopTableTest(unittest.TestCase):
    def test_a_world_may_be_made_of_the_tables_of_its_kinds(self):
        world = World(stop_table(), stop_table(), stop_kinds(), {"p": ["p"], "w": ["w"]})
        self.assertEqual(rule_of(world), whole_rule(stop_kinds()))


if __name__ == "__main__":
    unittest.main()
