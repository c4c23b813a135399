"""[103] to [105]: scripts, and [1] to [4] as far as they speak of them."""

import unittest

from kindspreads.bench import Bench
from kindspreads.errors import InvalidBench, InvalidBook, InvalidScript, InvalidText, SpreadError, Unsettled
from kindspreads.kinds import Kinds
from kindspreads.rules import Rule
from kindspreads.scripts import end_of, play, read_script, script_text, shortened
from kindspreads.terms import Book, term_of, text_of
from tests.books import stop_book
from tests.helper import check_errors, odd_objects, stop_rule
from tests.test_bench import FULL, GATHERED, HALF, ONE, ONE_FULL, busy_bench, told, told_wholly
from tests.test_fulls import loose_book
from tests.test_terms import NO_FORMS, OF_OTHER_BOOKS

WORDS = ["put", "take", "spread", "gather", "fill", "aim", "let_go", "add", "multiply", "term_there", "full_there", "is_met", "alike_spots",
         "most_copied", "undo", "redo"]
DAY = [("put", ONE), ("spread", 0, ONE_FULL), ("fill", 0), ("try", [("gather", 0, ONE), ("fill", 0)]), ("gather", 0, "a"), ("aim", 0, "z"),
       ("is_met", 0), ("most_copied",), ("undo",)]
LONG = [("put", GATHERED), ("aim", 0, FULL), ("put", ONE), ("try", [("fill", 0), ("try", [("take", 0), ("redo",), ("undo",), ("undo",), ("is_met", 0)]), ("try", [])]),
        ("fill", 0), ("add", 0, 1), ("let_go", 0), ("add", 0, 1), ("alike_spots", 0), ("term_there", 0), ("full_there", 1), ("redo",)]
SCRIPTS = [[], DAY, LONG, [("try", [("try", [("try", [("try", [("put", "a")])])])])], [("undo",), ("redo",), ("most_copied",)],
           [("put", "a"), ("put", "b"), ("multiply", 1, 0), ("put", "c"), ("take", 2), ("undo",), ("undo",), ("redo",)]]
NO_SCRIPTS = [
    (), (("undo",),), {0: ("undo",)}, "undo", [["undo"]], ["undo"], [()], [("undo", 1)], [("undo",), None], [("put",)], [("put", "a", "b")], [("take",)],
    [("take", -1)], [("take", True)], [("take", "0")], [("take", None)], [("take", 0, 0)], [("spread", 0)], [("spread", "a", 0)], [("spread", True, "a")],
    [("puts", "a")], [("aim_there", 0)], [("spots",)], [("copy",)], [("record",)], [(None,)], [(["undo"],)], [("try",)], [("try", ("undo",))], [("try", [("undo",)], [])],
    [("try", [("try", [("put", 1)])])], [("try", None)], [("end",)], [("",)], [("add", 0)], [("add", 0, False)], [("add", 0, 1, 2)], [("most_copied", [])], [("way", 0)],
]


def raised(function, *given):
    try:
        return function(*given)
    except SpreadError as error:
        return error


def played(bench, script):
    """What is said to a script, by the words of the document."""
    found = []
    for word, *given in script:
        if word == "try":
            with bench.trial():
                found.append(("tried", played(bench, given[0])))
            continue
        result = raised(getattr(bench, word), *given)
        if isinstance(result, SpreadError):
            found.append(("refused", type(result).__name__))
        elif word == "put":
            found.append(("put", result))
        else:
            found.append(("done",) if result is None else ("told", result))
    return found


class PlayTest(unittest.TestCase):
    def test_example(self):
        alone = {("p", "p"): "p"}
        book = Book(Rule(Kinds(alone, alone), [("p", "p", "p")], [("p", "p", "p")]), {"a": "p", "b": "p", "c": "p"})
        self.assertEqual(play(Bench(book), DAY), [
            ("put", 0), ("done",), ("refused", "Refused"), ("tried", [("done",), ("told", 1)]), ("refused", "Refused"), ("refused", "InvalidTerm"),
            ("told", True), ("told", []), ("done",)])
        self.assertEqual([end_of(book, DAY), shortened(book, DAY)], [{0: (ONE, None)}, [DAY[0], DAY[1], DAY[8]]])
        self.assertEqual(read_script(script_text(DAY)), DAY)
        script = [("put", ONE), ("aim", 0, "a"), ("add", 0, 10), ("try", [("undo",)])]
        self.assertEqual(script_text(script), "put a (b + c)\naim 0 a\nadd 0 10\ntry\n  undo\nend")

    def test_what_is_said(self):
        for script in SCRIPTS:
            for made in (lambda: Bench(stop_book()), busy_bench):
                bench, other = made(), made()
                self.assertEqual(play(bench=bench, script=script), played(other, script))
                self.assertEqual(told_wholly(bench), told_wholly(other))

    def test_the_whole_of_a_long_script(self):
        bench = Bench(stop_book())
        self.assertEqual(play(bench, LONG), [
            ("put", 0), ("done",), ("put", 1),
            ("tried", [("told", 4), ("tried", [("done",), ("refused", "NothingToRedo"), ("done",), ("done",), ("told", False)]), ("tried", [])]),
            ("told", 4), ("refused", "Refused"), ("done",), ("done",), ("told", []), ("told", term_of("a (b + c) + a c + a d + b c + b d")),
            ("refused", "InvalidSpot"), ("refused", "NothingToRedo")])
        self.assertEqual(bench.record(), [("put", GATHERED), ("aim", 0, FULL), ("put", ONE), ("fill", 0), ("let_go", 0), ("add", 0, 1)])

    def test_the_empty_script_and_tries_change_nothing(self):
        for script in ([], [("try", [])], [("try", LONG)], [("try", [("undo",), ("undo",), ("put", "a")])], [("is_met", 0), ("most_copied",)], [("take", 7)]):
            bench = busy_bench()
            before = told_wholly(bench)
            play(bench, script)
            self.assertEqual(told_wholly(bench), before)

    def test_refused_commands_within_tries(self):
        bench = Bench(stop_book())
        script = [("try", [("take", 0), ("put", "z"), ("put", "a"), ("fill", 0), ("try", [("undo",), ("undo",), ("put", ONE), ("fill", 0)]), ("fill", 0)]), ("undo",)]
        self.assertEqual(play(bench, script), [
            ("tried", [("refused", "InvalidSpot"), ("refused", "InvalidTerm"), ("put", 0), ("refused", "Refused"),
                       ("tried", [("done",), ("refused", "NothingToUndo"), ("put", 0), ("told", 1)]), ("refused", "Refused")]),
            ("refused", "NothingToUndo")])
        self.assertEqual([bench.spots(), bench.record()], [[], []])

    def test_terms_that_are_not_of_the_book_and_great_spots(self):
        for term in OF_OTHER_BOOKS:
            self.assertEqual(play(busy_bench(), [("put", term), ("aim", 0, term), ("spread", 0, term), ("gather", 9, term)]),
                             [("refused", "InvalidTerm")] * 3 + [("refused", "InvalidSpot")])
        self.assertEqual(play(busy_bench(), [("take", 10 ** 29), ("add", 0, 10 ** 29), ("multiply", 0, 0)]), [("refused", "InvalidSpot")] * 3)

    def test_wrong_arguments(self):
        scripts = (InvalidScript, [value for value in odd_objects() + NO_SCRIPTS if value != []] + [[("put", value)] for value in NO_FORMS])
        check_errors(self, play, [Bench(stop_book()), []], [(InvalidBench, odd_objects() + [stop_book(), []]), scripts])
        bench = busy_bench()
        before = told_wholly(bench)
        for script in NO_SCRIPTS:
            with self.assertRaises(InvalidScript):
                play(bench, [("put", "a"), ("try", script)])
        self.assertEqual(told_wholly(bench), before)

    def test_what_is_said_may_be_changed(self):
        bench = busy_bench()
        script = [("alike_spots", 0), ("most_copied",), ("try", [("alike_spots", 0)])]
        said = play(bench, script)
        told = play(bench, script)
        said[0][1].append(1)
        said[1][1].append(1)
        said[2][1].clear()
        said.clear()
        self.assertEqual(play(bench, script), told)


class TextTest(unittest.TestCase):
    def test_texts_there_and_back(self):
        for script in SCRIPTS + [[(word, *[5] * many) for word, many in (("take", 1), ("add", 2), ("multiply", 2), ("let_go", 1), ("fill", 1))]]:
            text = script_text(script=script)
            self.assertEqual(read_script(text=text), script)
            self.assertEqual(script_text(read_script(text)), text)
            again = read_script(text)
            again.append(None)
            self.assertEqual(read_script(text), script)

    def test_single_texts(self):
        told = [([], ""), ([("try", [])], "try\nend"), ([("undo",)], "undo"), ([("put", "a"), ("redo",)], "put a\nredo"),
                ([("try", [("try", [("put", HALF)]), ("take", 0)]), ("undo",)], "try\n  try\n    put a (c + d) + b (c + d)\n  end\n  take 0\nend\nundo"),
                ([("gather", 10 ** 29, "put"), ("add", 0, 60)], "gather " + "1" + "0" * 29 + " put\nadd 0 60"), ([("put", "try"), ("put", "end")], "put try\nput end"),
                ([("spread", 123456789012345678901234567890, ONE)], "spread 123456789012345678901234567890 a (b + c)"),
                ([("take", 10 ** 18 + 7)], "take 1000000000000000007"), ([("take", 10 ** 18 - 1)], "take 999999999999999999")]
        for script, text in told:
            self.assertEqual([script_text(script), read_script(text)], [text, script])

    def test_counts_of_very_many_figures(self):
        text = "take " + "12345678901" * 500
        self.assertEqual(script_text(read_script(text)), text)

    def test_wrong_texts(self):
        wrong = ["\n", "undo\n", "\nundo", "undo ", " undo", "undo\n\nundo", "  undo", "undo 0", "take", "take ", "take  0", "take 00", "take 01", "take -1", "take +1", "take 0 ",
                 "take 0 0", "take 1_0", "take one", "take 0a", "put", "put ", "put  a", "put a ", "put b + a", "put a +  b", "put (a + b)", "put a b\n c", "put ab c d + ", "put A",
                 "spread 0", "spread a 0", "spread 0 0", "spread 0  a", "spread 00 a", "add 0", "add 0 1 2", "add 0  1", "try", "end", "try\nundo\nend", "try\n   undo\nend",
                 "try\n undo\nend", "try\n  undo\n end", "try\n  undo\n  end", "try\nend\nend", "try\n  try\n  end", "try\n  try\nend\nend", "try \nend", "try\nend ", " try\nend", "trY\nend",
                 "try\n  end", "undo\n  undo", "Undo", "undo" + chr(9), "spots", "copy", "record", "try 0\nend", "end\ntry", "put a" + chr(9), "take " + chr(178), "take " + chr(1632), "way 0", "aim_there 0"]
        for text in wrong:
            with self.assertRaises(InvalidText, msg=text) as caught:
                read_script(text)
            self.assertIs(caught.exception.value, text)
        objects = [value for value in odd_objects() if value != ""] + [[], [("undo",)]]
        check_errors(self, read_script, ["undo"], [(InvalidText, objects)])

    def test_wrong_scripts(self):
        scripts = [value for value in odd_objects() + NO_SCRIPTS if value != []]
        check_errors(self, script_text, [[]], [(InvalidScript, scripts + [[("put", value)] for value in NO_FORMS])])


class EndTest(unittest.TestCase):
    def test_ends(self):
        for script in SCRIPTS:
            bench = Bench(stop_book())
            played(bench, script)
            end = end_of(book=stop_book(), script=script)
            self.assertEqual(list(end.items()), [(spot, (bench.term_there(spot), bench.aim_there(spot))) for spot in bench.spots()])
        self.assertEqual(end_of(stop_book(), [("put", ONE), ("aim", 0, ONE_FULL), ("put", "a"), ("take", 1), ("put", "b")]), {0: (ONE, ONE_FULL), 2: ("b", None)})

    def test_shortened(self):
        for script in SCRIPTS:
            end = end_of(stop_book(), script)
            kept = list(script)
            for at in range(len(kept))[::-1]:
                if end_of(stop_book(), kept[:at] + kept[at + 1:]) == end:
                    kept = kept[:at] + kept[at + 1:]
            self.assertEqual(shortened(book=stop_book(), script=script), kept)
        self.assertEqual(shortened(stop_book(), []), [])

    def test_shortened_goes_from_the_last_command_to_the_first(self):
        # Either spread could stay: the later one goes.
        script = [("put", GATHERED), ("spread", 0, HALF), ("gather", 0, GATHERED), ("spread", 0, HALF), ("try", [("undo",)]), ("fill", 0)]
        self.assertEqual(shortened(stop_book(), script), [script[0], script[5]])
        self.assertEqual(shortened(stop_book(), script[:4]), [script[0], script[1]])
        spots = [("put", "a"), ("take", 0), ("put", "a"), ("put", "b"), ("take", 2)]
        # Without the last command there would be one spot more; without the put ahead of it, it is refused then.
        self.assertEqual(shortened(stop_book(), spots), [("put", "a"), ("take", 0), ("put", "a"), ("take", 2)])

    def test_lists_within_what_is_left_are_new(self):
        book = stop_book()
        inner = [("put", "a")]
        script = [("put", "b"), ("try", inner), ("undo",), ("put", "b")]
        left = shortened(book, script)
        for command in left:
            if command[0] == "try":
                command[1].clear()
        left.clear()
        self.assertEqual([inner, len(script)], [[("put", "a")], 4])
        told = end_of(book, script)
        end_of(book, script).clear()
        self.assertEqual(end_of(book, script), told)

    def test_wrong_arguments(self):
        scripts = (InvalidScript, [value for value in odd_objects() + NO_SCRIPTS if value != []])
        for function in (end_of, shortened):
            check_errors(self, function, [stop_book(), []], [(InvalidBook, odd_objects() + [stop_rule()]), scripts])
            check_errors(self, function, [stop_book(), []], [(Unsettled, [loose_book()]), scripts])

    def test_all_words(self):
        self.assertEqual([text_of(ONE), len(WORDS)], ["a (b + c)", 16])
        bench = busy_bench()
        script = [("put", "a"), ("take", 3), ("spread", 0, FULL), ("gather", 0, GATHERED), ("fill", 0), ("aim", 0, HALF), ("let_go", 0), ("add", 1, 0), ("multiply", 1, 0),
                  ("term_there", 0), ("full_there", 0), ("is_met", 0), ("alike_spots", 0), ("most_copied",), ("undo",), ("redo",)]
        self.assertEqual([word for word, *_ in script], WORDS)
        other = busy_bench()
        self.assertEqual(play(bench, script), played(other, script))
        self.assertEqual(told(bench), told(other))


if __name__ == "__main__":
    unittest.main()
