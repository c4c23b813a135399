"""[95] to [102]: a bench, and [1] to [4] as far as they speak of it."""

import unittest

from kindspreads.bench import Bench, replayed
from kindspreads.errors import InvalidBench, InvalidBook, InvalidRecord, InvalidSpot, InvalidTerm, NothingToRedo, NothingToUndo
from kindspreads.errors import Refused, Unsettled
from kindspreads.fulls import copied_things, full_spread
from kindspreads.kin import are_kin, is_chain
from kindspreads.rules import Rule, whole_rule
from kindspreads.spreads import gatherings, spreads
from kindspreads.terms import Book, product_of, sum_of, term_of
from tests.books import stop_book
from tests.helper import PPP, check_errors, odd_objects, one_kind, stop_kinds, stop_rule
from tests.test_fulls import loose_book
from tests.test_terms import NO_TERMS

GATHERED = term_of("(a + b) (c + d)")
HALF = term_of("a (c + d) + b (c + d)")
FULL = term_of("a c + a d + b c + b d")
ONE, ONE_FULL = term_of("a (b + c)"), term_of("a b + a c")


def told(bench):
    """All that the methods of a bench tell, but what it tells when steps are taken back."""
    spots = bench.spots()
    return [
        spots,
        [(bench.term_there(spot), bench.aim_there(spot), bench.full_there(spot), bench.is_met(spot)) for spot in spots],
        [(bench.way(spot), bench.alike_spots(spot)) for spot in spots],
        bench.most_copied(),
        bench.record(),
    ]


def told_wholly(bench):
    """What a bench tells, and what copies of it tell when all steps are taken back and made again."""
    found = [told(bench)]
    for step, last in ((Bench.undo, NothingToUndo), (Bench.redo, NothingToRedo)):
        other = bench.copy()
        while True:
            try:
                step(other)
            except last:
                break
            found.append(told(other))
    return found


def busy_bench():
    """A bench with several spots, an aim, steps to take back and steps to make again."""
    bench = Bench(stop_book())
    bench.put(GATHERED)
    bench.put(ONE)
    bench.put("m")
    bench.spread(0, HALF)
    bench.aim(1, ONE_FULL)
    bench.take(2)
    bench.put(term_of("a d"))
    bench.fill(0)
    bench.undo()
    bench.undo()
    return bench


class BenchTest(unittest.TestCase):
    def raises(self, error, value, function, *given):
        with self.assertRaises(error) as caught:
            function(*given)
        self.assertIs(type(caught.exception), error)
        if value is not None:
            self.assertIs(caught.exception.value, value)


class SpotsTest(BenchTest):
    def test_example(self):
        book = Book(stop_rule(), {"a": "p", "b": "p", "c": "p", "d": "p", "m": "w"})
        bench = Bench(book)
        found = [bench.put(GATHERED), bench.spread(0, HALF), bench.term_there(0) == HALF, bench.gather(0, GATHERED), bench.aim(0, HALF)]
        self.assertEqual(found + [bench.is_met(0), bench.is_way(0, [GATHERED, HALF])], [0, None, True, None, None, False, True])
        found = [bench.let_go(0), bench.fill(0), bench.term_there(0) == bench.full_there(0), bench.put(HALF)]
        self.assertEqual(found + [bench.alike_spots(0), bench.most_copied()], [None, 4, True, 1, [1], [1]])
        found = [bench.put("m"), bench.multiply(2, 1), bench.term_there(2)[1], bench.spots(), bench.full_there(2)[:2], bench.undo()]
        self.assertEqual(found + [bench.spots()], [2, None, "m", [0, 2], ("product", "m"), None, [0, 1, 2]])
        self.assertEqual([len(bench.record()), replayed(Bench(book), bench.record()).term_there(1) == HALF, bench.most_copied()], [8, True, [1]])

    def test_a_bench_without_spots(self):
        bench = Bench(book=stop_book())
        self.assertEqual([bench.spots(), bench.most_copied(), bench.record()], [[], [], []])
        self.raises(NothingToUndo, None, bench.undo)
        self.raises(NothingToRedo, None, bench.redo)
        self.assertTrue(bench == bench)
        for wrong in odd_objects() + [0, 1]:
            self.raises(InvalidSpot, wrong, bench.term_there, wrong)

    def test_put_and_take(self):
        bench = Bench(stop_book())
        self.assertEqual([bench.put(term="a"), bench.put(ONE), bench.put("a")], [0, 1, 2])
        self.assertEqual([bench.take(spot=1), bench.spots(), bench.put("b"), bench.spots()], [None, [0, 2], 3, [0, 2, 3]])
        self.assertEqual([bench.take(3), bench.put("c"), bench.spots()], [None, 4, [0, 2, 4]])
        self.assertEqual([bench.term_there(spot=4), bench.aim_there(spot=4), bench.full_there(spot=4)], ["c", None, "c"])
        self.raises(InvalidSpot, 1, bench.term_there, 1)
        self.raises(InvalidSpot, 3, bench.take, 3)

    def test_a_put_that_was_taken_back_counts_as_never_made(self):
        bench = Bench(stop_book())
        bench.put("a")
        bench.put("b")
        bench.undo()
        self.assertEqual([bench.put("c"), bench.spots(), bench.term_there(1)], [1, [0, 1], "c"])
        with bench.trial():
            self.assertEqual([bench.put("d"), bench.put("e")], [2, 3])
        self.assertEqual([bench.put("m"), bench.take(2), bench.undo(), bench.undo(), bench.put("a")], [2, None, None, None, 2])
        bench.take(2)
        self.assertEqual([bench.undo(), bench.redo(), bench.put("a")], [None, None, 3])

    def test_the_book_may_not_be_unsettled(self):
        loose = loose_book()
        self.raises(Unsettled, loose, Bench, loose)
        check_errors(self, Bench, [stop_book()], [(InvalidBook, odd_objects() + [stop_rule()])])


class StepsTest(BenchTest):
    def test_spread_and_gather(self):
        for term in (GATHERED, HALF, FULL, term_of("m a (b + c)"), term_of("a b c + a b c (d + e)"), "a", term_of("(a + b + c) (d + e)")):
            bench = Bench(stop_book())
            bench.put("m")
            bench.put(term)
            for step, outcomes in ((bench.spread, spreads(stop_book(), term)), (bench.gather, gatherings(stop_book(), term))):
                for outcome in outcomes:
                    with bench.trial():
                        self.assertIsNone(step(spot=1, term=outcome))
                        self.assertEqual([bench.term_there(1), bench.term_there(0)], [outcome, "m"])
                for other in (GATHERED, HALF, FULL, "a", term, term_of("a a")):
                    if other not in outcomes:
                        self.raises(Refused, other, step, 1, other)
            self.assertEqual(bench.record(), [("put", "m"), ("put", term)])

    def test_fill(self):
        for term in (GATHERED, HALF, ONE, term_of("m a (b + c)"), term_of("(a + b + c) (d + e)")):
            bench = Bench(stop_book())
            bench.put(term)
            self.assertEqual(bench.fill(spot=0), copied_things(stop_book(), term))
            self.assertEqual(bench.term_there(0), full_spread(stop_book(), term))
            self.raises(Refused, 0, bench.fill, 0)
        bench.put("a")
        self.raises(Refused, 1, bench.fill, 1)

    def test_aims(self):
        bench = Bench(stop_book())
        bench.put(ONE)
        self.assertEqual([bench.aim_there(0), bench.is_met(spot=0), bench.way(spot=0), bench.is_way(0, [ONE])], [None, True, [ONE], True])
        self.raises(Refused, 0, bench.let_go, 0)
        self.assertEqual([bench.aim(spot=0, term=ONE_FULL), bench.aim_there(0), bench.is_met(0)], [None, ONE_FULL, False])
        self.assertEqual([bench.way(0), bench.is_way(spot=0, value=[ONE, ONE_FULL, ONE, ONE_FULL]), bench.is_way(0, [ONE])], [[ONE, ONE_FULL], True, False])
        self.assertEqual([bench.fill(0), bench.is_met(0), bench.way(0), bench.is_way(0, [ONE_FULL])], [1, True, [ONE_FULL], True])
        self.assertEqual([bench.is_way(0, [ONE_FULL, ONE]), bench.is_way(0, [ONE_FULL, ONE, ONE_FULL])], [False, True])
        self.assertEqual([bench.aim(0, ONE), bench.aim_there(0), bench.is_met(0)], [None, ONE, False])
        self.assertEqual([bench.let_go(spot=0), bench.aim_there(0), bench.is_met(0), bench.is_way(0, [ONE_FULL, ONE, ONE_FULL])], [None, None, True, True])
        self.raises(Refused, 0, bench.let_go, 0)

    def test_no_aims_that_are_not_kin(self):
        bench = Bench(stop_book())
        bench.put(term_of("m (a + b)"))
        for term in (term_of("m a + m b"), "m", term_of("m (a + c)")):
            self.raises(Refused, term, bench.aim, 0, term)
        self.assertIsNone(bench.aim_there(0))

    def test_ways_of_greater_terms(self):
        book = Book(whole_rule(one_kind()), {thing: "p" for thing in "abcdefghi"})
        bench = Bench(book)
        term = term_of("(a + b + c) (d + e + f) (g + h + i)")
        bench.put(term)
        bench.aim(0, full_spread(book, term))
        way = bench.way(0)
        self.assertEqual([is_chain(book, term, bench.aim_there(0), way), bench.is_way(0, way), bench.is_way(0, way[1:])], [True, True, False])
        self.assertEqual([bench.fill(0), bench.is_met(0)], [copied_things(book, term), True])

    def test_judged_ways(self):
        bench = Bench(stop_book())
        bench.put(ONE)
        bench.put(ONE)
        bench.aim(1, ONE_FULL)
        for value in odd_objects() + NO_TERMS + [[value] for value in NO_TERMS] + [[], (ONE,), [ONE_FULL], [ONE, ONE], (ONE, ONE_FULL)]:
            self.assertEqual([bench.is_way(0, value), bench.is_way(1, value)], [False, False], value)

    def test_add_and_multiply(self):
        book = stop_book()
        terms = [ONE, term_of("a + m"), term_of("c + d"), "b", term_of("d e"), GATHERED]
        for one in terms:
            for other in terms:
                for name, made in (("add", sum_of(book, [one, other])), ("multiply", product_of(book, [one, other]))):
                    bench = Bench(book)
                    bench.put(one)
                    bench.put("m")
                    bench.put(other)
                    self.assertIsNone(getattr(bench, name)(one=0, other=2))
                    self.assertEqual([bench.spots(), bench.term_there(0), bench.term_there(1)], [[0, 1], made, "m"])
                    bench.undo()
                    getattr(bench, name)(2, 0)
                    back = [other, one]
                    self.assertEqual([bench.spots(), bench.term_there(2)], [[1, 2], sum_of(book, back) if name == "add" else product_of(book, back)])
                    self.assertEqual(bench.put("a"), 3)

    def test_terms_with_aims_are_not_put_together(self):
        bench = Bench(stop_book())
        for term in (ONE, ONE, ONE):
            bench.put(term)
        bench.aim(1, ONE_FULL)
        for step in (bench.add, bench.multiply):
            self.raises(Refused, 1, step, 0, 1)
            self.raises(Refused, 1, step, 1, 0)
        bench.aim(0, ONE)
        for step in (bench.add, bench.multiply):
            self.raises(Refused, 0, step, 0, 1)
            self.raises(Refused, 1, step, 1, 0)
            self.raises(InvalidSpot, 1, step, 1, 1)
            self.raises(InvalidSpot, 0, step, 0, 0)
            self.raises(InvalidSpot, 7, step, 0, 7)
        bench.let_go(0)
        bench.let_go(1)
        bench.add(0, 1)
        self.assertEqual(bench.term_there(0), sum_of(stop_book(), [ONE, ONE]))

    def test_alike_spots_and_most_copied(self):
        bench = Bench(stop_book())
        for term in (ONE, GATHERED, ONE_FULL, ONE, FULL):
            bench.put(term)
        for spot in bench.spots():
            alike = [other for other in bench.spots() if other != spot and are_kin(stop_book(), bench.term_there(spot), bench.term_there(other))]
            self.assertEqual(bench.alike_spots(spot=spot), alike)
        self.assertEqual([bench.alike_spots(0), bench.most_copied()], [[2, 3], [1]])
        bench.take(1)
        self.assertEqual(bench.most_copied(), [0, 3])
        bench.fill(0)
        bench.fill(3)
        self.assertEqual([bench.most_copied(), bench.alike_spots(4)], [[], []])


class BlocksTest(BenchTest):
    def test_blocks_within_blocks(self):
        bench = busy_bench()
        before = told_wholly(bench)
        with bench.trial() as name:
            self.assertTrue(name is bench)
            bench.put("a")
            bench.take(0)
            inner = told_wholly(bench)
            with bench.trial():
                bench.take(1)
                bench.undo()
                bench.undo()
                bench.undo()
                self.assertEqual(bench.spots(), [0, 1])
                bench.put("b")
                with bench.trial():
                    bench.put("c")
            self.assertEqual(told_wholly(bench), inner)
        self.assertEqual(told_wholly(bench), before)
        bench.redo()
        self.assertEqual(bench.spots(), [0, 1, 3])

    def test_a_block_that_an_error_leaves(self):
        for error in (KeyError("x"), Refused(1), ValueError("y")):
            bench = busy_bench()
            before = told_wholly(bench)
            with self.assertRaises(type(error)) as caught:
                with bench.trial():
                    with bench.trial():
                        bench.put("a")
                        raise error
            self.assertIs(caught.exception, error)
            self.assertEqual(told_wholly(bench), before)

    def test_a_block_that_is_made_and_never_entered_and_one_that_is_entered_later(self):
        bench = busy_bench()
        bench.trial()
        block = bench.trial()
        bench.put("a")
        before = told_wholly(bench)
        with block:
            bench.put("b")
            bench.undo()
            bench.undo()
        self.assertEqual(told_wholly(bench), before)

    def test_undo_within_a_block_of_what_was_done_ahead_of_it(self):
        bench = busy_bench()
        before = told_wholly(bench)
        with bench.trial():
            bench.undo()
            bench.undo()
            self.assertEqual(bench.record(), [("put", GATHERED), ("put", ONE), ("put", "m"), ("spread", 0, HALF)])
            bench.redo()
            bench.redo()
            bench.redo()
            bench.redo()
            self.raises(NothingToRedo, None, bench.redo)
        self.assertEqual(told_wholly(bench), before)
        with bench.trial():
            bench.put("a")
            self.raises(NothingToRedo, None, bench.redo)
        self.assertIsNone(bench.redo())

    def test_attempts(self):
        bench = busy_bench()
        before = told_wholly(bench)
        result, calls = [1, [2]], []

        def action(given):
            calls.append(given)
            given.put("a")
            given.undo()
            given.undo()
            return result

        self.assertIs(bench.attempt(action=action), result)
        self.assertEqual([len(calls), calls[0] is bench], [1, True])
        self.assertEqual(told_wholly(bench), before)
        self.assertIsNone(bench.attempt(lambda given: given.take(0)))
        self.assertEqual(bench.attempt(lambda given: given.attempt(lambda again: again.put("b"))), 3)
        error = KeyError("x")

        def failing(given):
            given.take(0)
            raise error

        with self.assertRaises(KeyError) as caught:
            bench.attempt(failing)
        self.assertIs(caught.exception, error)
        self.assertEqual(told_wholly(bench), before)

    def test_copies(self):
        bench = busy_bench()
        before = told_wholly(bench)
        other = bench.copy()
        self.assertEqual(told_wholly(other), before)
        other.put("a")
        other.take(0)
        self.assertEqual(told_wholly(bench), before)
        changed = told_wholly(other)
        bench.undo()
        bench.put("b")
        self.assertEqual(told_wholly(other), changed)

    def test_a_copy_made_within_a_block_is_in_no_block(self):
        bench = busy_bench()
        with bench.trial():
            bench.put("a")
            other = bench.copy()
            inside = told_wholly(bench)
            other.put("b")
        self.assertEqual(other.spots(), [0, 1, 3, 4])
        other.undo()
        self.assertEqual([told(other), bench.spots()], [inside[0], [0, 1]])


class UndoTest(BenchTest):
    def test_each_command_is_taken_back_and_made_again(self):
        bench = Bench(stop_book())
        steps = [("put", GATHERED), ("put", ONE), ("spread", 0, HALF), ("gather", 0, GATHERED), ("fill", 0), ("aim", 1, ONE_FULL),
                 ("let_go", 1), ("put", "m"), ("add", 0, 1), ("multiply", 2, 0), ("take", 2)]
        pages = [told(bench)]
        for word, *given in steps:
            getattr(bench, word)(*given)
            pages.append(told(bench))
        self.assertEqual(bench.record(), steps)
        for page in pages[:-1][::-1]:
            self.assertIsNone(bench.undo())
            self.assertEqual(told(bench), page)
        self.raises(NothingToUndo, None, bench.undo)
        for page in pages[1:]:
            self.assertIsNone(bench.redo())
            self.assertEqual(told(bench), page)
        self.raises(NothingToRedo, None, bench.redo)

    def test_a_new_command_behind_an_undo(self):
        bench = busy_bench()
        bench.let_go(1)
        self.raises(NothingToRedo, None, bench.redo)
        bench.undo()
        bench.redo()
        self.raises(NothingToRedo, None, bench.redo)

    def test_asking_and_errors_are_no_commands(self):
        bench = busy_bench()
        before = told_wholly(bench)
        wrongs = [(bench.put, [1]), (bench.take, [2]), (bench.spread, [0, GATHERED]), (bench.gather, [0, "z"]), (bench.aim, [0, "a"]),
                  (bench.let_go, [0]), (bench.add, [0, 0]), (bench.multiply, [0, 1]), (bench.fill, [True])]
        for function, given in wrongs:
            with self.assertRaises((InvalidTerm, InvalidSpot, Refused)):
                function(*given)
            self.assertEqual(told_wholly(bench), before)
        bench.redo()
        bench.redo()
        self.assertEqual(bench.term_there(0), FULL)

    def test_records_are_new_lists(self):
        bench = busy_bench()
        record = bench.record()
        self.assertEqual(record, [("put", GATHERED), ("put", ONE), ("put", "m"), ("spread", 0, HALF), ("aim", 1, ONE_FULL), ("take", 2)])
        for function in (bench.record, bench.spots, bench.most_copied, lambda: bench.way(1), lambda: bench.alike_spots(0)):
            found = function()
            function().append(None)
            self.assertEqual(function(), found)


class ReplayedTest(BenchTest):
    def test_on_a_bench_with_something_on_it(self):
        bench = busy_bench()
        before = told_wholly(bench)
        record = [("put", "b"), ("add", 3, 0), ("let_go", 1), ("multiply", 3, 1)]
        other = replayed(bench=bench, record=record)
        self.assertEqual(told_wholly(bench), before)
        self.assertEqual([other.spots(), other.record()], [[3], bench.record() + record])
        for _ in record:
            other.undo()
        self.assertEqual(told(other), told(bench))
        self.assertEqual(told_wholly(replayed(bench, [])), before)

    def test_records_of_benches(self):
        bench = busy_bench()
        again = replayed(Bench(stop_book()), bench.record())
        self.assertEqual(told(again), told(bench))

    def test_the_error_of_the_first_command_that_raises_one(self):
        bench = busy_bench()
        before = told_wholly(bench)
        wrong = ["b"]
        for record, error, value in [
            ([("put", "b"), ("take", 9), ("put", wrong)], InvalidSpot, 9), ([("put", wrong), ("take", 9)], InvalidTerm, wrong),
            ([("spread", 0, FULL)], Refused, FULL), ([("fill", True)], InvalidSpot, True), ([("add", 0, 0)], InvalidSpot, 0), ([("add", 0, 1)], Refused, 1),
            ([("let_go", 0)], Refused, 0), ([("aim", 0, None)], InvalidTerm, None), ([("gather", [], FULL)], InvalidSpot, None),
        ]:
            self.raises(error, value, replayed, bench, record)
            self.assertEqual(told_wholly(bench), before)

    def test_wrong_arguments(self):
        command = ("put", "a")
        records = [(command,), [command, None], [list(command)], [("put",)], [("put", "a", "b")], [()], [("puts", "a")], [("undo",)], [(["put"], "a")]]
        records += [{0: command}, [("take",)], [("add", 0)], [("multiply", 0, 1, 2)], [("fill", 0, 1)], [("term_there", 0)], [(None, "a")], [(True,)]]
        benches = (InvalidBench, odd_objects() + [stop_book(), Bench])
        check_errors(self, replayed, [Bench(stop_book()), []], [benches, (InvalidRecord, odd_objects()[:9] + records)])
        self.raises(InvalidRecord, None, replayed, Bench(stop_book()), [("take", 0), ("puts", 1)])


class WrongArgumentsTest(BenchTest):
    def test_spots_and_terms(self):
        bench = busy_bench()
        wrong = [value for value in odd_objects() if isinstance(value, bool) or value not in (0, 1)]
        spots = (InvalidSpot, wrong + [2, 3, 10 ** 29, "0", [0], (0,)])
        terms = (InvalidTerm, NO_TERMS)
        before = told_wholly(bench)
        for name in ("take", "term_there", "aim_there", "full_there", "fill", "is_met", "way", "alike_spots", "let_go"):
            check_errors(self, self.in_a_block(bench, name), [1], [spots])
        for name, outcome in (("spread", term_of("a (c + d) + b c + b d")), ("gather", GATHERED), ("aim", FULL)):
            check_errors(self, self.in_a_block(bench, name), [0, outcome], [spots, terms])
        check_errors(self, self.in_a_block(bench, "put"), ["a"], [terms])
        check_errors(self, bench.is_way, [0, None], [spots, (None, [None])])
        bench.let_go(1)
        for name in ("add", "multiply"):
            check_errors(self, self.in_a_block(bench, name), [0, 1], [spots, (InvalidSpot, spots[1] + [0])])
        bench.undo()
        self.assertEqual(told(bench), before[0])

    def in_a_block(self, bench, name):
        def call(*given):
            with bench.trial():
                return getattr(bench, name)(*given)
        return call

    def test_refused_comes_behind_all_other_errors(self):
        bench = busy_bench()
        for wrong in NO_TERMS:
            self.raises(InvalidTerm, wrong, bench.aim, 0, wrong)
        self.raises(InvalidSpot, 9, bench.add, 1, 9)
        self.raises(InvalidSpot, 1, bench.multiply, 1, 1)

    def test_other_books(self):
        book = Book(Rule(stop_kinds(), [PPP], []), {"a": "p", "b": "p", "c": "p", "m": "w"})
        bench = Bench(book)
        bench.put(ONE)
        self.assertEqual([bench.fill(0), bench.term_there(0)], [1, ONE_FULL])
        bench.put(term_of("(b + c) a"))
        self.raises(Refused, 1, bench.fill, 1)


if __name__ == "__main__":
    unittest.main()
