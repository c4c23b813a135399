"""What several tests use: sample tables and rules, odd objects, and checks of errors."""

from itertools import product

from kindspreads.kinds import Kinds
from kindspreads.rules import Rule

PPP = ("p", "p", "p")


def table(words, made):
    """A table that makes `made(x, y)` of each two of some letters."""
    return {(x, y): made(x, y) for x in words for y in words}


def stop_table(words="pw"):
    return table(words, lambda x, y: "p" if x == y == "p" else "w")


def stop_kinds(words="pw"):
    return Kinds(stop_table(words), stop_table(words))


def stop_rule():
    return Rule(stop_kinds(), [PPP], [PPP])


def one_kind():
    return Kinds({("p", "p"): "p"}, {("p", "p"): "p"})


def three_kinds():
    """Three kinds in which everything makes "n": all triples hold."""
    nought = table("not", lambda x, y: "n")
    return Kinds(nought, nought)


def odd_objects():
    """Objects of all sorts that are no word, no table, no rule, no book and no term."""
    kinds = one_kind()
    return [
        None, True, False, 0, 1, -1, "", "A", "a b", "ninewords", "a\n", "a1", chr(9), [], (), {}, ["p"], ("p",),
        {"p": "p"}, {1: 2}, [[]], ((),), [{}], ("sum",), ("sum", 1, 2), ("product", None, "a"), {(1, 2): 3},
        {("p",): "p"}, {("p", True): "p"}, ((kinds, "a", "b")), ("sum", kinds, kinds), [kinds], Kinds, (Kinds, 1),
    ]


def rows_over(letters, length):
    return [list(row) for row in product(letters, repeat=length)]


def check_errors(test, function, good, wrongs):
    """Each argument wrong alone, and with all further ones wrong behind it, raises its error.

    `wrongs` has for each argument a tuple of the class of the error and the wrong objects, the
    class None for an argument that may be any object. The error's field is the very object.
    """
    function(*good)
    for at, (error, values) in enumerate(wrongs):
        if error is None:
            continue
        for value in values:
            alone = list(good)
            alone[at] = value
            behind = alone[:at + 1] + [later[0] for _, later in wrongs[at + 1:]]
            for arguments in (alone, behind):
                with test.assertRaises(error) as caught:
                    function(*arguments)
                test.assertIs(type(caught.exception), error, (function, at, value))
                test.assertIs(caught.exception.value, value, (function, at, value))
