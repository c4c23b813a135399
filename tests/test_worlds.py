"""[51] to [55]: the finite world of a term, and [1] to [4] as far as they speak of it."""

import unittest
from itertools import combinations

from kindspreads.errors import InvalidBook, InvalidTerm
from kindspreads.kin import are_kin
from kindspreads.rules import Rule, whole_rule
from kindspreads.terms import Book, term_of
from kindspreads.valued import World, are_inputs, fits, parting_inputs, rule_of, same_always, value_of
from kindspreads.worlds import coming, is_telling_world, telling_world, told_value, world_of, world_size
from tests import naive
from tests.books import stop_book
from tests.helper import PPP, check_errors, odd_objects, one_kind, stop_kinds, stop_rule, table, three_kinds
from tests.test_fulls import books
from tests.test_terms import NO_TERMS

VALUES = ["v" + letter for letter in "abcdefghijklmnopqrstuvwxyz"] + ["va" + letter for letter in "abcdefghijklmnopqrstuvwxyz"]


def pieces(term):
    """What stands together within a term: things, and summands or neighbouring factors put together."""
    found = set()
    for inner in naive.inner(term):
        found.add(inner)
        if naive.is_sum(inner):
            for many in range(1, len(inner)):
                found |= {naive.flat("sum", list(row)) for row in combinations(inner[1:], many)}
        if naive.is_product(inner):
            for first in range(1, len(inner)):
                found |= {naive.flat("product", list(inner[first:last])) for last in range(first + 1, len(inner) + 1)}
    return found


def coming_classes(classes, term):
    """The classes that come for a term, in their order."""
    found = {classes[piece][0]: classes[piece] for kin in classes[term] for piece in pieces(kin)}
    return [found[first] for first in sorted(found, key=lambda each: (len(naive.things(each)), naive.text(each)))]


def sample():
    """Tuples of a book, its classes of few terms, and some of these terms of at most five words."""
    for book, names in books():
        classes = naive.classes(book, naive.few_terms(names, 5))
        terms = [term for term in classes if len(naive.words(term)) <= 5]
        yield book, classes, terms[::11]


class ComingTest(unittest.TestCase):
    def test_example(self):
        kinds = stop_kinds()
        book = Book(Rule(kinds, [PPP], [PPP]), {"a": "p", "b": "p", "c": "p", "m": "w"})
        term, spread = ("product", "a", ("sum", "b", "c")), ("sum", ("product", "a", "b"), ("product", "a", "c"))
        told = ["a", "b", "c", ("product", "a", "b"), ("product", "a", "c"), ("sum", "b", "c"), term]
        self.assertEqual([coming(book, term), world_size(book, term)], [told, 9])
        world, inputs = world_of(book, term)
        self.assertEqual([inputs, told_value(book, term)], [{"a": "va", "b": "vb", "c": "vc", "m": "vi"}, "vg"])
        values = [value_of(world, book, inputs, each) for each in (spread, ("product", "m", ("sum", "b", "c")))]
        self.assertEqual(values, ["vg", "vi"])
        self.assertEqual([telling_world(book, term, spread), is_telling_world(book, term, "m", (world, inputs))], [None, True])

    def test_as_the_document_says(self):
        for book, classes, terms in sample():
            for term in terms:
                told = coming_classes(classes, term)
                self.assertEqual(coming(book=book, term=term), [row[0] for row in told])
                self.assertEqual(world_size(book=book, term=term), len(told) + len(book.rule().kinds().words()))

    def test_a_thing_alone(self):
        self.assertEqual([coming(stop_book(), "a"), world_size(stop_book(), "a")], [["a"], 3])
        world, inputs = world_of(stop_book(), "a")
        self.assertEqual(inputs, {"a": "va", "b": "vb", "c": "vb", "d": "vb", "e": "vb", "m": "vc"})
        self.assertEqual([world.words(), world.holding()], [["va", "vb", "vc"], {"p": ["va", "vb"], "w": ["vc"]}])
        self.assertEqual(told_value(stop_book(), "a"), "va")

    def test_kin_come_together(self):
        for text, other in (("a (b + c)", "a b + a c"), ("(a + b) c d", "a c d + b c d"), ("a b (c + d)", "a (b c + b d)")):
            self.assertEqual(coming(stop_book(), term_of(text)), coming(stop_book(), term_of(other)))
            self.assertEqual(world_of(stop_book(), term_of(text)), world_of(stop_book(), term_of(other)))


class WorldOfTest(unittest.TestCase):
    def test_the_tables(self):
        for book, classes, terms in sample():
            kinds = book.rule().kinds()
            for term in terms[::4]:
                told = coming_classes(classes, term)
                place = {each: at for at, row in enumerate(told) for each in row}
                rest = {kind: len(told) + at for at, kind in enumerate(kinds.words())}
                world, inputs = world_of(book=book, term=term)
                for one in told:
                    for other in told:
                        names = (VALUES[place[one[0]]], VALUES[place[other[0]]])
                        added, made = [naive.flat(word, [one[0], other[-1]]) for word in ("sum", "product")]
                        self.assertEqual(world.plus()[names], VALUES[place.get(added, rest[naive.kind(book, added)])])
                        self.assertEqual(world.times()[names], VALUES[place.get(made, rest[naive.kind(book, made)])])
                self.check_rests(world, kinds, rest)
                sorts = [naive.kind(book, row[0]) for row in told] + kinds.words()
                for kind in kinds.words():
                    self.assertEqual(world.holding()[kind], sorted(VALUES[at] for at, sort in enumerate(sorts) if sort == kind))
                self.assertEqual(list(inputs), list(book.things()))
                for thing, kind in book.things().items():
                    self.assertEqual(inputs[thing], VALUES[place.get(thing, rest[kind])])

    def check_rests(self, world, kinds, rest):
        for one in kinds.words():
            for other in kinds.words():
                names = (VALUES[rest[one]], VALUES[rest[other]])
                self.assertEqual(world.plus()[names], VALUES[rest[kinds.add(one, other)]])
                self.assertEqual(world.times()[names], VALUES[rest[kinds.multiply(one, other)]])

    def test_just_the_kin_have_the_value(self):
        for book, classes, terms in sample():
            for term in terms[::3]:
                world, inputs = world_of(book, term)
                self.assertIs(fits(world, book.rule()), True)
                self.assertIs(are_inputs(world, book, inputs), True)
                value = told_value(book=book, term=term)
                for other in list(classes)[::23] + classes[term]:
                    self.assertIs(value_of(world, book, inputs, other) == value, other in classes[term])

    def test_five_words(self):
        things = {thing: "p" for thing in "abcdefghi"}
        for rule in (whole_rule(one_kind()), Rule(one_kind(), [PPP], []), Rule(one_kind(), [], [])):
            book = Book(rule, things)
            for text in ("a (b + c + d + e + f)", "a b + a b (c + d) + a c + a d", "(a + b) (c + d) + e c", "a b c d e f + b c d e f a"):
                world, inputs = world_of(book, term_of(text))
                self.assertEqual(world.words(), sorted(world.words()))
                self.assertEqual(len(world.words()), world_size(book, term_of(text)))
                self.assertEqual(value_of(world, book, inputs, term_of(text)), told_value(book, term_of(text)))
                self.assertIs(fits(world, rule), True)

    def test_three_kinds_of_all_triples(self):
        book = Book(whole_rule(three_kinds()), {"a": "n", "b": "o", "c": "t"})
        term = term_of("a (b + c)")
        world, inputs = world_of(book, term)
        self.assertEqual(rule_of(world), whole_rule(three_kinds()))
        self.assertEqual(value_of(world, book, inputs, term_of("a b + a c")), told_value(book, term))

    def test_changing_what_was_returned_changes_nothing(self):
        book, term = stop_book(), term_of("a (b + c)")
        told = coming(book, term)
        coming(book, term).clear()
        world_of(book, term)[1].clear()
        world_of(book, term)[0].plus().clear()
        self.assertEqual([coming(book, term), len(world_of(book, term)[1])], [told, 6])


class TellingWorldTest(unittest.TestCase):
    def test_apart_exactly_if_not_kin(self):
        for book, _, terms in sample():
            for one in terms[::3]:
                for other in terms[::5] + naive.outcomes(book, one):
                    found = telling_world(book=book, one=one, other=other)
                    self.assertIs(found is None, are_kin(book, one, other))
                    self.assertIs(is_telling_world(book=book, one=one, other=other, value=found), found is not None)
                    if found is not None:
                        world, inputs = found
                        self.assertIs(fits(world, book.rule()), True)
                        self.assertNotEqual(value_of(world, book, inputs, one), value_of(world, book, inputs, other))

    def test_any_world_that_fits(self):
        book = Book(stop_rule(), {"a": "p", "b": "p", "m": "w"})
        plus, times = table("uvw", max), table("uvw", max)
        world = World(plus, times, stop_kinds(), {"p": ["u", "v"], "w": ["v", "w"]})
        inputs = {"a": "u", "b": "v", "m": "w"}
        self.assertIs(is_telling_world(book, "a", "b", (world, inputs)), True)
        self.assertIs(is_telling_world(book, "b", "a", (world, inputs)), True)
        self.assertIs(is_telling_world(book, "a", "a", (world, inputs)), False)
        self.assertIs(is_telling_world(book, term_of("a + b"), "b", (world, inputs)), False)

    def test_other_objects(self):
        book = Book(stop_rule(), {"a": "p", "b": "p", "m": "w"})
        world, inputs = telling_world(book, "a", "b")
        self.assertIs(is_telling_world(book, "a", "b", (world, inputs)), True)
        other_kinds = World({("v", "v"): "v"}, {("v", "v"): "v"}, one_kind(), {"p": ["v"]})
        first = Book(Rule(stop_kinds(), [], []), {"a": "p", "b": "p", "m": "w"})
        loose, where = world_of(first, term_of("a (a + b)"))
        self.assertIs(is_telling_world(first, "a", "b", (loose, where)), True)
        self.assertIs(fits(loose, stop_rule()), False)
        wrong = [[world, inputs], (world,), (world, inputs, 1), (inputs, world), (world, None), (None, inputs), (other_kinds, {"a": "v", "b": "v", "m": "v"})]
        wrong += [(world, {}), (world, {**inputs, "z": "va"}), (world, {"a": "va", "b": "vb"}), (loose, where), (world, {**inputs, "m": inputs["a"]})]
        for value in odd_objects() + wrong:
            self.assertIs(is_telling_world(book, "a", "b", value), False)

    def test_no_world_that_fits_tells_kin_apart(self):
        book = stop_book()
        one, other = term_of("a (b + c)"), term_of("a b + a c")
        for text in ("a", "a (b + c)", "b + c", "a + b c"):
            world, inputs = world_of(book, term_of(text))
            self.assertIs(same_always(world, book, one, other), True)
            self.assertIs(parting_inputs(world, book, one, other), None)
            self.assertIs(is_telling_world(book, one, other, (world, inputs)), False)

    def test_wrong_arguments(self):
        terms = [(InvalidTerm, NO_TERMS), (InvalidTerm, NO_TERMS)]
        for function in (coming, world_of, told_value, world_size):
            check_errors(self, function, [stop_book(), "a"], [(InvalidBook, odd_objects()), (InvalidTerm, NO_TERMS)])
        check_errors(self, telling_world, [stop_book(), "a", "b"], [(InvalidBook, odd_objects())] + terms)
        check_errors(self, is_telling_world, [stop_book(), "a", "b", None], [(InvalidBook, odd_objects())] + terms + [(None, [None])])


if __name__ == "__main__":
    unittest.main()
