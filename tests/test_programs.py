"""[86] to [91]: programs with names, and [1] to [4] as far as they speak of them."""

import unittest
from itertools import product

from kindspreads.errors import Apart, InvalidBook, InvalidInputs, InvalidLines, InvalidProgram, InvalidTerm, InvalidWorld, Unlike
from kindspreads.kin import are_kin
from kindspreads.kinds import Kinds
from kindspreads.prices import plus_signs, times_signs
from kindspreads.programs import Program, fewest_lines, is_program_of, merged, program_of, result_of, same_everywhere, saved
from kindspreads.programs import signs_in, sorts_of, terms_of, trimmed, values_there
from kindspreads.rules import Rule
from kindspreads.terms import Book, kind_of, term_of, text_of
from kindspreads.valued import value_of
from kindspreads.worlds import world_of
from tests import naive
from tests.books import books_over, stop_book
from tests.helper import PPP, check_errors, odd_objects, one_kind, stop_kinds, stop_rule
from tests.test_fulls import loose_book
from tests.test_terms import NO_TERMS
from tests.test_valued import cut, letters

SQUARE = [("s", "sum", ["b", "a"]), ("q", "product", ["s", "s"]), ("r", "product", ["s", "c"]), ("x", "sum", ["q", "r"])]
SHORT = [("s", "sum", ["a", "b"]), ("u", "sum", ["c", "s"]), ("x", "product", ["s", "u"])]
LONG = [("s", "sum", ["a", "b"]), ("t", "sum", ["b", "a"]), ("v", "product", ["m", "t"]), ("x", "product", ["s", "t"])]
ONE_LINE = [("x", "sum", ["a", "a"])]
TAIL_ALIKE = [("s", "sum", ["a", "b"]), ("t", "sum", ["b", "a"])]
CHAINED = [("s", "sum", ["a", "b"]), ("t", "sum", ["b", "a"]), ("u", "product", ["s", "c"]), ("v", "product", ["t", "c"]),
           ("y", "sum", ["v", "u"]), ("x", "product", ["y", "v"])]
ALL_LINES = [SQUARE, SHORT, LONG, ONE_LINE, TAIL_ALIKE, CHAINED]


def pence_book():
    return Book(stop_rule(), {"a": "p", "b": "p", "c": "p", "d": "p", "m": "w"})


def programs():
    return [Program(pence_book(), lines) for lines in ALL_LINES]


def told_terms(lines):
    """The terms of the names of lines, put together anew."""
    known = {}
    for name, word, names in lines:
        known[name] = naive.flat(word, [known.get(each, each) for each in names])
    return known


def hangs(lines):
    """The names that the last one hangs on."""
    known = {}
    for name, _, names in lines:
        known[name] = {name}.union(*[known.get(each, set()) for each in names])
    return known[lines[-1][0]]


class ProgramTest(unittest.TestCase):
    def test_example(self):
        book = pence_book()
        square, short, long = [Program(book, lines) for lines in (SQUARE, SHORT, LONG)]
        self.assertEqual(square.lines()[0], ("s", "sum", ["a", "b"]))
        self.assertEqual(result_of(square), ("sum", ("product", ("sum", "a", "b"), ("sum", "a", "b")), ("product", ("sum", "a", "b"), "c")))
        self.assertEqual([sorts_of(square), signs_in(square)], [{"s": "p", "q": "p", "r": "p", "x": "p"}, (2, 2)])
        self.assertEqual([terms_of(short)["x"], signs_in(short)], [("product", ("sum", "a", "b"), ("sum", "a", "b", "c")), (2, 1)])
        self.assertEqual([same_everywhere(square, short), saved(square, short)], [True, (0, 1)])
        self.assertEqual(merged(long).lines(), [("s", "sum", ["a", "b"]), ("v", "product", ["m", "s"]), ("x", "product", ["s", "s"])])
        self.assertEqual(trimmed(long).lines(), [("s", "sum", ["a", "b"]), ("t", "sum", ["a", "b"]), ("x", "product", ["s", "t"])])
        self.assertEqual([fewest_lines(book, result_of(square)), is_program_of(book, result_of(square), square)], [4, True])
        self.assertIs(is_program_of(book, result_of(square), long), False)
        self.assertEqual(result_of(program_of(book, result_of(short))), result_of(short))

    def test_a_program_tells_what_it_is_made_of(self):
        book = pence_book()
        for lines in ALL_LINES:
            made = Program(book=book, lines=lines)
            self.assertEqual(made.book(), book)
            self.assertEqual(made.lines(), [(name, word, sorted(row) if word == "sum" else row) for name, word, row in lines])
        made = Program(book, [("s", "sum", ["b", "m", "a", "b"]), ("t", "product", ["s", "b", "s", "a"])])
        self.assertEqual(made.lines(), [("s", "sum", ["a", "b", "b", "m"]), ("t", "product", ["s", "b", "s", "a"])])

    def test_equal(self):
        book = pence_book()
        self.assertEqual(Program(book, SQUARE), Program(pence_book(), [("s", "sum", ["a", "b"])] + SQUARE[1:]))
        others = programs()[1:] + [Program(stop_book(), SQUARE), Program(book, SQUARE[:3]), SQUARE, None, book]
        others += [Program(book, [("s", "sum", ["b", "a"]), ("q", "product", ["s", "s"]), ("r", "product", ["c", "s"]), ("x", "sum", ["q", "r"])])]
        others += [Program(book, [("z", "sum", ["b", "a"]), ("q", "product", ["z", "z"]), ("r", "product", ["z", "c"]), ("x", "sum", ["q", "r"])])]
        for other in others:
            self.assertFalse(Program(book, SQUARE) == other)
            self.assertTrue(Program(book, SQUARE) != other)

    def test_what_was_passed_or_returned_may_be_changed(self):
        lines = [(name, word, list(names)) for name, word, names in SQUARE]
        made = Program(pence_book(), lines)
        lines[1][2].append("a")
        lines.clear()
        made.lines()[0][2].clear()
        made.lines().clear()
        self.assertEqual(made, Program(pence_book(), SQUARE))
        for function in (terms_of, sorts_of):
            function(made).clear()
            self.assertEqual(list(function(made)), ["s", "q", "r", "x"])
        merged(made).lines().clear()
        self.assertEqual(len(merged(made).lines()), 4)

    def test_names_of_all_sorts(self):
        made = Program(pence_book(), [("sum", "sum", ["a", "b"]), ("product", "product", ["sum", "sum"]), ("abcdefgh", "sum", ["product", "sum"])])
        self.assertEqual(text_of(result_of(made)), "(a + b) (a + b) + a + b")


class TermsTest(unittest.TestCase):
    def test_terms_and_kinds(self):
        for made in programs():
            told = told_terms(made.lines())
            self.assertEqual(list(terms_of(program=made).items()), list(told.items()))
            self.assertEqual(result_of(program=made), told[made.lines()[-1][0]])
            self.assertEqual(list(sorts_of(program=made).items()), [(name, kind_of(made.book(), term)) for name, term in told.items()])

    def test_put_together_flat(self):
        made = Program(pence_book(), [("s", "sum", ["m", "a"]), ("t", "sum", ["c", "s", "b"]), ("u", "product", ["a", "b"]), ("x", "product", ["u", "t", "u"])])
        self.assertEqual([text_of(term) for term in terms_of(made).values()], ["a + m", "a + b + c + m", "a b", "a b (a + b + c + m) a b"])
        self.assertEqual(sorts_of(made), {"s": "w", "t": "w", "u": "p", "x": "w"})

    def test_signs(self):
        for made in programs():
            told = [sum(len(names) - 1 for _, word, names in made.lines() if word == sign) for sign in ("sum", "product")]
            self.assertEqual(signs_in(program=made), tuple(told))
        self.assertEqual(signs_in(Program(pence_book(), [("x", "product", ["a", "a", "m", "a"])])), (0, 3))
        doubled = Program(pence_book(), [("s", "sum", ["a", "b"]), ("t", "product", ["s", "s"]), ("x", "product", ["t", "t"])])
        term = result_of(doubled)
        self.assertEqual([signs_in(doubled), plus_signs(pence_book(), term), times_signs(pence_book(), term)], [(1, 2), 4, 3])


class TrimmedTest(unittest.TestCase):
    def test_lines_that_the_result_does_not_hang_on(self):
        for made in programs():
            wanted = [line for line in made.lines() if line[0] in hangs(made.lines())]
            self.assertEqual(trimmed(program=made), Program(made.book(), wanted))
            self.assertEqual([result_of(trimmed(made)), trimmed(trimmed(made))], [result_of(made), trimmed(made)])
        alone = Program(pence_book(), SQUARE + [("y", "sum", ["a", "b"])])
        self.assertEqual(trimmed(alone).lines(), [("y", "sum", ["a", "b"])])
        self.assertEqual(trimmed(Program(pence_book(), SQUARE)).lines(), Program(pence_book(), SQUARE).lines())
        self.assertEqual(trimmed(alone).book(), pence_book())


class MergedTest(unittest.TestCase):
    def test_lines_alike_to_elder_ones(self):
        self.assertEqual(merged(program=Program(pence_book(), CHAINED)).lines(), [
            ("s", "sum", ["a", "b"]), ("u", "product", ["s", "c"]), ("y", "sum", ["u", "u"]), ("x", "product", ["y", "u"])])
        for made in programs():
            self.assertEqual(result_of(merged(made)), result_of(made))
            self.assertEqual(merged(merged(made)), merged(made))

    def test_a_last_line_alike_to_an_elder_one_stays(self):
        made = Program(pence_book(), TAIL_ALIKE)
        self.assertEqual(merged(made), made)
        again = Program(pence_book(), TAIL_ALIKE + [("u", "product", ["t", "c"]), ("v", "product", ["s", "c"])])
        self.assertEqual(merged(again).lines(), [("s", "sum", ["a", "b"]), ("u", "product", ["s", "c"]), ("v", "product", ["s", "c"])])

    def test_unlike_words_and_orders(self):
        told = [("s", "sum", ["a", "b"]), ("t", "product", ["a", "b"]), ("u", "product", ["b", "a"]), ("v", "sum", ["a", "b", "b"]), ("x", "sum", ["s", "t", "u", "v"])]
        self.assertEqual(merged(Program(pence_book(), told)).lines(), told)

    def test_names_of_a_sum_ascend_behind_the_exchange(self):
        told = [("z", "sum", ["a", "b"]), ("k", "sum", ["b", "a"]), ("x", "sum", ["k", "m"]), ("y", "sum", ["m", "z"]), ("w", "product", ["x", "y"])]
        self.assertEqual(merged(Program(pence_book(), told)).lines(), [("z", "sum", ["a", "b"]), ("x", "sum", ["m", "z"]), ("w", "product", ["x", "x"])])

    def test_lines_that_make_the_same_by_other_lines_stay(self):
        told = [("s", "sum", ["a", "b"]), ("t", "sum", ["c", "s"]), ("u", "sum", ["a", "b", "c"]), ("x", "product", ["t", "u"])]
        self.assertEqual(merged(Program(pence_book(), told)).lines(), told)


class ProgramOfTest(unittest.TestCase):
    def test_all_terms_of_few_things(self):
        for book, names in [(book, "am") for book in books_over({"a": "p", "m": "w"})[:2]] + [(loose_book(), "xy")]:
            for term in naive.few_terms(names, 5)[::7]:
                if naive.is_sum(term) or naive.is_product(term):
                    made = program_of(book=book, term=term)
                    wanted = [each for each in naive.inner(term) if isinstance(each, tuple)]
                    self.assertEqual([made.book(), result_of(made)], [book, term])
                    self.assertEqual(sorted(terms_of(made).values(), key=text_of), sorted(wanted, key=text_of))
                    self.assertEqual(fewest_lines(book=book, term=term), len(wanted))
                    self.assertIs(is_program_of(book=book, term=term, value=made), True)

    def test_things_that_are_called_as_lines_would_be(self):
        book = Book(Rule(one_kind(), [], []), {thing: "p" for thing in ("a", "b", "c", "d", "e", "f", "aa", "ab", "g")})
        term = term_of("(aa + b) (c + d) (e + f) (a b + c (ab + g))")
        made = program_of(book, term)
        self.assertEqual([result_of(made), len(made.lines()), fewest_lines(book, term)], [term, 8, 8])
        self.assertIs(is_program_of(book, term, made), True)

    def test_terms_of_whatever_size(self):
        book = Book(Rule(one_kind(), [], []), {thing: "p" for thing in "abcdefghi"})
        term = term_of("(a + b + c) (d + e + f) (g + h + i)")
        self.assertEqual([fewest_lines(book, term), result_of(program_of(book, term))], [4, term])

    def test_programs_that_write_one_term_in_other_orders(self):
        book = pence_book()
        told = [("(a + b) (c + d) (a + b) + a + b", [("s", "sum", ["b", "a"]), ("t", "sum", ["c", "d"]), ("u", "product", ["s", "t", "s"]), ("x", "sum", ["u", "s"])]),
                ("(a + b) (c + d) (a + b) + a + b", [("t", "sum", ["d", "c"]), ("s", "sum", ["b", "a"]), ("u", "product", ["s", "t", "s"]), ("x", "sum", ["b", "u", "a"])]),
                ("(a + b) (c + d) (a + b) + a + b", [("x", "sum", ["c", "d"]), ("t", "sum", ["a", "b"]), ("s", "product", ["t", "x", "t"]), ("u", "sum", ["t", "s"])]),
                ("(a + b + c) (a + b)", [("s", "sum", ["a", "b"]), ("t", "sum", ["c", "s"]), ("x", "product", ["t", "s"])]),
                ("(a + b + c) (a + b)", [("t", "sum", ["c", "b", "a"]), ("s", "sum", ["a", "b"]), ("x", "product", ["t", "s"])])]
        for text, lines in told:
            self.assertIs(is_program_of(book, term_of(text), Program(book, lines)), True)

    def test_judged_objects(self):
        book = pence_book()
        term = result_of(Program(book, SQUARE))
        good = Program(book, SQUARE)
        self.assertIs(is_program_of(book, term, good), True)
        self.assertIs(is_program_of(pence_book(), term, good), True)
        wrong = [Program(book, SQUARE[:3]), Program(book, SHORT), Program(book, LONG), Program(book, SQUARE[:1] + [("y", "sum", ["a", "c"])] + SQUARE[1:])]
        wrong += [Program(book, SQUARE[:1] + [("t", "sum", ["a", "b"])] + SQUARE[1:]), Program(stop_book(), SQUARE)]
        wrong += [Program(book, [("s", "sum", ["a", "b"]), ("r", "product", ["s", "c"]), ("q", "product", ["s", "s"]), ("x", "sum", ["q", "r", "r"])])]
        # The result is the term, but it is put together by a line that is no inner term; or the last line is another one.
        wrong += [Program(book, SQUARE[:3] + [("t", "sum", ["r", "a"]), ("x", "sum", ["q", "r"])])]
        wrong += [Program(book, SQUARE + [("y", "product", ["a", "b"])]), Program(book, SQUARE[:1] + [SQUARE[2], SQUARE[1]])]
        for value in wrong + odd_objects() + NO_TERMS + [term, SQUARE, [good], book, text_of(term)]:
            self.assertIs(is_program_of(book, term, value), False)
        for value in wrong[-1:] + odd_objects():
            self.assertIs(is_program_of(book, term_of("a b"), value), False)


class SameEverywhereTest(unittest.TestCase):
    def test_kin_results(self):
        book = pence_book()
        rows = [SQUARE, SHORT, LONG, [("x", "product", ["a", "m"])], [("s", "sum", ["a", "b"]), ("x", "product", ["m", "s"])]]
        rows += [[("s", "product", ["m", "a"]), ("t", "product", ["m", "b"]), ("x", "sum", ["s", "t"])], [("s", "sum", ["a", "b"]), ("x", "product", ["c", "s"])]]
        rows += [[("s", "product", ["c", "a"]), ("t", "product", ["c", "b"]), ("x", "sum", ["t", "s"])]]
        kin = 0
        for one in rows:
            for other in rows:
                made = [Program(book, one), Program(pence_book(), other)]
                told = are_kin(book, result_of(made[0]), result_of(made[1]))
                kin += 1 if told else 0
                self.assertIs(same_everywhere(one=made[0], other=made[1]), told)
                self.check_saved(made, told)
        self.assertEqual(kin, len(rows) + 4)

    def check_saved(self, made, told):
        one, other = made
        if told:
            fewer = tuple([some - more for some, more in zip(signs_in(one), signs_in(other))])
            self.assertEqual(saved(one=one, other=other), fewer)
            self.assertEqual(saved(other, one), tuple([-many for many in fewer]))
            return
        with self.assertRaises(Apart) as caught:
            saved(one, other)
        self.assertIs(caught.exception.value, other)

    def test_rules_that_are_not_settled(self):
        book = loose_book()
        one = Program(book, [("s", "sum", ["y", "v"]), ("t", "product", ["x", "s"])])
        other = Program(book, [("s", "product", ["x", "y"]), ("u", "product", ["x", "v"]), ("t", "sum", ["s", "u"])])
        self.assertIs(same_everywhere(one, other), are_kin(book, result_of(one), result_of(other)))
        self.assertEqual(saved(one, one), (0, 0))

    def test_wrong_arguments(self):
        good = Program(pence_book(), ONE_LINE)
        wrong = odd_objects() + [ONE_LINE, pence_book(), "a"]
        unlike = [Program(stop_book(), ONE_LINE), Program(Book(Rule(stop_kinds(), [PPP], []), pence_book().things()), ONE_LINE)]
        for function in (same_everywhere, saved):
            check_errors(self, function, [good, good], [(InvalidProgram, wrong), (InvalidProgram, wrong)])
            check_errors(self, function, [good, good], [(InvalidProgram, wrong), (Unlike, unlike)])


class ValuesTest(unittest.TestCase):
    def test_values_of_lines_are_those_of_their_terms(self):
        world = cut()
        for made in programs():
            things = made.book().things()
            rows = list(product(*[world.holding()[kind] for kind in things.values()]))
            for row in rows[::5]:
                inputs = dict(zip(things, row))
                told = values_there(program=made, world=world, inputs=inputs)
                self.assertEqual(list(told.items()), [(name, value_of(world, made.book(), inputs, term)) for name, term in terms_of(made).items()])

    def test_programs_that_are_the_same_everywhere(self):
        one, other = Program(pence_book(), SQUARE), Program(pence_book(), SHORT)
        for at, term in enumerate([result_of(one), term_of("a b + a c")]):
            world, inputs = world_of(pence_book(), term)
            self.assertEqual(values_there(one, world, inputs)["x"], values_there(other, world, inputs)["x"], at)

    def test_each_line_is_reckoned_once(self):
        names = "ghijklnopqrstuvwxyz"
        lines = [("f", "sum", ["a", "a"])] + [(name, "sum", [before, before]) for before, name in zip("f" + names, names)]
        made = Program(pence_book(), lines)
        world = cut()
        inputs = {"a": "one", "b": "one", "c": "two", "d": "two", "m": "three"}
        self.assertEqual(values_there(made, world, inputs)["z"], "three")

    def test_wrong_arguments(self):
        world = cut()
        good = {"a": "one", "b": "one", "c": "two", "d": "two", "m": "three"}
        made = Program(pence_book(), SQUARE)
        programs_wrong = (InvalidProgram, odd_objects() + [SQUARE, pence_book()])
        inputs = [None, [], {}, {**good, "e": "one"}, {**good, "m": "two"}, {**good, "a": "four"}, {**good, "a": None}, {**good, "a": ["one"]}]
        inputs += [{**good, "a": True}, list(good.items()), {thing: good[thing] for thing in "abcd"}, {**{thing: good[thing] for thing in "abcd"}, "z": "one"}]
        inputs_wrong = (InvalidInputs, odd_objects() + inputs)
        check_errors(self, values_there, [made, world, good], [programs_wrong, (InvalidWorld, odd_objects() + [made]), inputs_wrong])
        check_errors(self, values_there, [made, world, good], [programs_wrong, (Unlike, [letters()]), inputs_wrong])
        told = values_there(made, world, good)
        values_there(made, world, good).clear()
        self.assertEqual(values_there(made, world, good), told)


class WrongArgumentsTest(unittest.TestCase):
    def test_lines(self):
        line = ("s", "sum", ["a", "b"])
        wrong = [[], (), (line,), {"s": line}, [list(line)], [("s", "sum")], [line + (1,)], [line, line], [("a", "sum", ["a", "b"])]]
        wrong += [[("s", "times", ["a", "b"])], [("s", "sums", ["a", "b"])], [("s", None, ["a", "b"])], [("s", ["sum"], ["a", "b"])]]
        wrong += [[("s", "sum", ["a"])], [("s", "sum", [])], [("s", "sum", ("a", "b"))], [("s", "sum", "ab")], [("s", "sum", ["a", "z"])]]
        wrong += [[("s", "sum", ["s", "a"])], [("s", "sum", ["t", "a"]), ("t", "sum", ["a", "b"])], [("S", "sum", ["a", "b"])], [("", "sum", ["a", "b"])]]
        wrong += [[("ninewords", "sum", ["a", "b"])], [(None, "sum", ["a", "b"])], [([], "sum", ["a", "b"])], [(True, "sum", ["a", "b"])]]
        wrong += [[("s", "sum", [1, 2])], [("s", "sum", [["a"], "b"])], [("s", "sum", [None, "a"])], [line, ("t", "product", ["s", ("sum", "a", "b")])]]
        wrong += [[line, None], [line, ("t", "sum", ["s", "x"])], [("s", "sum", {"a": "b", "b": "a"})]]
        check_errors(self, Program, [pence_book(), SQUARE], [(InvalidBook, odd_objects() + [stop_rule()]), (InvalidLines, odd_objects() + wrong)])
        self.assertEqual(Program(pence_book(), [line, ("t", "product", ["s", "s"])]).lines()[1], ("t", "product", ["s", "s"]))

    def test_programs(self):
        for function in (result_of, terms_of, sorts_of, signs_in, trimmed, merged):
            check_errors(self, function, [Program(pence_book(), ONE_LINE)], [(InvalidProgram, odd_objects() + [ONE_LINE, pence_book()])])

    def test_books_and_terms(self):
        head, tail = (InvalidBook, odd_objects()), (InvalidTerm, NO_TERMS + ["a", "m"])
        for function in (program_of, fewest_lines):
            check_errors(self, function, [stop_book(), term_of("a b")], [head, tail])
        check_errors(self, is_program_of, [stop_book(), term_of("a b"), None], [head, tail, (None, [None])])


if __name__ == "__main__":
    unittest.main()
