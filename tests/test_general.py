"""[2]: what holds for the whole program: equal calls, arguments and results that are changed, objects that are equal."""

import unittest

from kindspreads.bench import Bench
from kindspreads.justrule import own_inputs, own_world
from kindspreads.kinds import Kinds
from kindspreads.programs import Program
from kindspreads.rules import Rule
from kindspreads.terms import Book, term_of
from kindspreads.valued import World
from kindspreads.worlds import world_of
from tests.helper import PPP, odd_objects, stop_table
from tests.test_interface import CLASSES, FUNCTIONS, module_called

OF_PACKAGE = (Kinds, Rule, Book, World, Program, Bench)
TEXTS = {"term": "a (b + c)", "one": "a (b + c)", "other": "a b + a c", "third": "a b", "outcome": "a b + a c"}


class Samples:
    """Fresh arguments for all functions; `turned` tells whether dictionaries have their keys the other way round."""

    def __init__(self, turned):
        self.turned = turned
        table = self.dictionary(stop_table())
        self.kinds = Kinds(table, table)
        self.rule = Rule(self.kinds, [PPP], [PPP])
        self.book = Book(self.rule, self.dictionary({"a": "p", "b": "p", "c": "p", "m": "w"}))
        self.world = own_world(self.rule)

    def dictionary(self, told):
        return dict(list(told.items())[::-1]) if self.turned else dict(told)

    def program(self, last="c"):
        return Program(self.book, [("s", "sum", ["b", last]), ("t", "sum", [last, "b"]), ("x", "product", ["a", "s"])])

    def bench(self):
        bench = Bench(self.book)
        bench.put(term_of("a (b + c)"))
        bench.aim(0, term_of("a b + a c"))
        bench.put("m")
        bench.undo()
        return bench

    def of(self, module, function, name):
        """The argument of a function for a parameter."""
        special = self.special(module, function)
        if name in special:
            return special[name]
        if name in TEXTS:
            return term_of(TEXTS[name])
        names = self.dictionary({"a": "z", "b": "y", "c": "x", "m": "m"})
        return {
            "kinds": self.kinds, "rule": self.rule, "book": self.book, "world": self.world, "value": [("p", None)],
            "row": ["p", "w", "p"], "sent": names, "word": "left", "triple": PPP, "triples": [PPP, PPP], "left": [PPP], "right": [PPP],
            "terms": ["a", term_of("a (b + c)"), term_of("a b + a c")], "number": 1, "lists": [["p"], ["w"]], "thing": "b",
            "prices": (self.dictionary({"p": 3, "w": 1}), self.dictionary({"p": 1, "w": 0})), "program": self.program(), "bench": self.bench(),
            "inputs": self.dictionary(own_inputs(self.book)), "record": [("put", "a"), ("fill", 0), ("take", 1)], "script": [("put", "a"), ("try", [("fill", 0)]), ("most_copied",)],
            "text": "a (b + c)",
        }[name]

    def special(self, module, function):
        """What single functions, or those of single modules, want instead."""
        apart = {"one": "a", "other": "b"}
        told = {
            "renamed": {"sent": self.dictionary({"p": "w", "w": "p"})}, "renamed_rule": {"sent": self.dictionary({"p": "w", "w": "p"})},
            "rule_without": {"right": []}, "put_in": {"sent": self.dictionary({"a": "b", "m": ("sum", "m", "m")})}, "shape_term": {"row": ["p", "p", "p", "w"]},
            "apart_paper": apart, "linking": apart, "frees": apart, "freeing_things": apart, "hides": {**apart, "word": "ahead"}, "hiding_things": apart,
            "telling": {"one": "p", "other": "w"}, "is_telling": {"one": "p", "other": "w"}, "same_everywhere": {"one": self.program(), "other": self.program("m")},
            "saved": {"one": self.program(), "other": self.program()}, "read_script": {"text": "put a\ntry\n  fill 0\nend"}, "triple_terms": {"triple": ("p", "w", "p")},
            "read_rule": {"text": "plus\nk k = k\ntimes\nk k = k\nleft\nk k k\nright"}, "read_triples": {"text": "k k n\nk n k"},
            "read_book": {"text": "plus\nk k = k\ntimes\nk k = k\nleft\nk k k\nright\nthings\nx k"},
        }.get(function, {})
        if module == "rules":
            told = {"one": self.rule, "other": Rule(self.kinds, [], [PPP]), **told}
        if function in ("is_plus_table", "is_times_table"):
            told = {"value": self.dictionary(stop_table())}
        return told


def all_calls(samples):
    """Tuples of a name, a function of the interface and arguments for it."""
    for module, functions in FUNCTIONS.items():
        for function, parameters in functions.items():
            arguments = [samples.of(module, function, name) for name in parameters.split()]
            yield module + "." + function, vars(module_called(module))[function], arguments


def told_by(value):
    """What a value is, strictly: True is not 1, a tuple is no list, and dictionaries have their items in an order."""
    if isinstance(value, dict):
        return ("dict", [(told_by(key), told_by(each)) for key, each in value.items()])
    if isinstance(value, (list, tuple)):
        return (type(value).__name__, [told_by(each) for each in value])
    for module, classes in CLASSES.items():
        for name, (_, methods) in classes.items():
            if type(value).__name__ == name:
                asked = [method for method, given in methods.items() if given == "" and method not in ("trial", "copy", "undo", "redo")]
                return (name, [(method, told_by(getattr(value, method)())) for method in asked])
    return (type(value).__name__, value)


def spoil(value):
    """Change a value, and what is within it, as far as that can be changed."""
    if isinstance(value, (list, tuple, dict)):
        for each in list(value.values()) if isinstance(value, dict) else value:
            spoil(each)
    if isinstance(value, (list, dict)):
        value.clear()


class CallsTest(unittest.TestCase):
    def test_equal_calls_return_equal_results(self):
        sample, turned = Samples(False), Samples(True)
        for (name, function, arguments), (_, _, others) in zip(all_calls(sample), all_calls(turned)):
            told = told_by(function(*arguments))
            # The second time all books and rules have been asked much already.
            self.assertEqual(told_by(function(*others)), told, name)
            if name != "scripts.play":
                self.assertEqual(told_by(function(*arguments)), told, name)

    def test_arguments_stay_as_they_are(self):
        for name, function, arguments in all_calls(Samples(False)):
            before = told_by(arguments)
            function(*arguments)
            if name != "scripts.play":
                self.assertEqual(told_by(arguments), before, name)

    def test_results_that_are_changed_change_nothing(self):
        sample = Samples(False)
        told = {name: told_by(function(*arguments)) for name, function, arguments in all_calls(sample)}
        for _, function, arguments in all_calls(sample):
            spoil(function(*arguments))
        for name, function, arguments in all_calls(sample):
            self.assertEqual(told_by(function(*arguments)), told[name], name)

    def test_results_do_not_share_lists_with_arguments(self):
        sample = Samples(False)
        for name, function, arguments in all_calls(sample):
            before = told_by(arguments)
            spoil(function(*arguments))
            if name != "scripts.play":
                self.assertEqual(told_by(arguments), before, name)

    def test_methods_return_new_lists(self):
        sample = Samples(False)
        for value in (sample.kinds, sample.rule, sample.book, sample.world, sample.program(), sample.bench()):
            told = told_by(value)
            for module, classes in CLASSES.items():
                for name, (_, methods) in classes.items():
                    if type(value).__name__ == name:
                        for method, given in methods.items():
                            if given == "" and method not in ("trial", "copy", "undo", "redo"):
                                spoil(getattr(value, method)())
            self.assertEqual(told_by(value), told)


class EqualTest(unittest.TestCase):
    def test_equal_exactly_if_all_that_is_told_is(self):
        sample, turned = Samples(False), Samples(True)
        rows = []
        for each in (sample, turned):
            worlds = [each.world, world_of(each.book, "a")[0]]
            rules = [each.rule, Rule(each.kinds, [], [PPP])]
            books = [each.book, Book(each.rule, {"a": "p", "m": "w"}), Book(rules[1], each.book.things())]
            rows.append([each.kinds, Kinds(stop_table("pvw"), stop_table("pvw"))] + rules + books + worlds + [each.program(), each.program("m")])
        for at, one in enumerate(rows[0]):
            for where, other in enumerate(rows[1]):
                self.assertIs(one == other, at == where, (at, where))
                self.assertIs(one != other, at != where, (at, where))
                self.assertEqual(told_by(one) == told_by(other), at == where)
            for value in odd_objects():
                if not isinstance(value, OF_PACKAGE):
                    self.assertIs(one == value, False)

    def test_a_bench_is_equal_to_itself(self):
        bench = Samples(False).bench()
        self.assertTrue(bench == bench)
        self.assertFalse(bench != bench)


if __name__ == "__main__":
    unittest.main()
