"""Scripts: lists of commands for a bench, what is said when they are played, and their texts."""

from kindspreads.bench import COMMANDS, Bench, made_on, need_bench
from kindspreads.errors import InvalidScript, InvalidText, SpreadError
from kindspreads.nodes import form_text
from kindspreads.plain import figures, is_count, number_read
from kindspreads.reading import term_read

# The words of what is no command of a bench, and what stands behind each of them.
QUESTIONS = {
    "term_there": ("spot",),
    "full_there": ("spot",),
    "is_met": ("spot",),
    "alike_spots": ("spot",),
    "most_copied": (),
    "undo": (),
    "redo": (),
}


def play(bench, script):
    """Carry out a script on a bench; the list of what is said to each command."""
    need_bench(bench)
    _need_script(script)
    return _said_to_all(bench, script)


def _need_script(value):
    if not _is_script(value):
        raise InvalidScript(value)


def _is_script(value):
    return isinstance(value, list) and all([_is_command(each) for each in value])


def _is_command(value):
    if not isinstance(value, tuple) or not value or not isinstance(value[0], str):
        return False
    word, *given = value
    if word == "try":
        return len(given) == 1 and _is_script(given[0])
    form = _form_of(word)
    if form is None or len(given) != len(form):
        return False
    return all([is_count(each) if what == "spot" else form_text(each) is not None for what, each in zip(form, given)])


def _form_of(word):
    """What stands behind the word of a command, None for other words."""
    if word in COMMANDS:
        return COMMANDS[word]
    return QUESTIONS.get(word)


def _said_to_all(bench, script):
    return [_said_to(bench, word, given) for word, *given in script]


def _said_to(bench, word, given):
    if word == "try":
        with bench.trial():
            said = _said_to_all(bench, given[0])
        return "tried", said
    try:
        told = _called(bench, word, given)
    except SpreadError as error:
        return "refused", error.__class__.__name__
    if word == "put":
        return "put", told
    return ("done",) if told is None else ("told", told)


def _called(bench, word, given):
    """What the method of a bench returns that has the name of a command."""
    if word in COMMANDS:
        return made_on(bench, word, given)
    if word == "term_there":
        return bench.term_there(*given)
    if word == "full_there":
        return bench.full_there(*given)
    if word == "is_met":
        return bench.is_met(*given)
    if word == "alike_spots":
        return bench.alike_spots(*given)
    if word == "most_copied":
        return bench.most_copied()
    return bench.undo() if word == "undo" else bench.redo()


def script_text(script):
    """The text of a script: a line for each command, the lines of tries further in."""
    _need_script(script)
    return "\n".join(_lines_of(script, ""))


def _lines_of(script, margin):
    """The lines of a script that stands behind some blanks."""
    lines = []
    for word, *given in script:
        if word == "try":
            lines += [margin + "try"] + _lines_of(given[0], margin + "  ") + [margin + "end"]
        else:
            words = [figures(each) if is_count(each) else form_text(each) for each in given]
            lines.append(margin + " ".join([word] + words))
    return lines


def read_script(text):
    """The script that has a text."""
    script = _script_read(text)
    if script is None or script_text(script) != text:
        raise InvalidText(text)
    return script


def _script_read(text):
    """The script of any object that is a text of one, None of most others; blanks and noughts are read loosely."""
    if not isinstance(text, str):
        return None
    # Of the whole, and of each try that has no end so far, the commands.
    opened = [[]]
    for line in text.split("\n") if text else []:
        bare = line.lstrip(" ")
        if bare == "try":
            opened.append([])
        elif bare == "end" and len(opened) > 1:
            inner = opened.pop()
            opened[-1].append(("try", inner))
        else:
            opened[-1].append(_command_read(bare))
    return opened[0] if len(opened) == 1 and _is_script(opened[0]) else None


def _command_read(line):
    """The command of a line, None of most lines of none."""
    word, _, rest = line.partition(" ")
    form = _form_of(word)
    if form is None:
        return None
    given = []
    for what in form:
        if what == "spot":
            told, _, rest = rest.partition(" ")
            given.append(number_read(told))
        else:
            given.append(term_read(rest))
    return (word, *given)


def end_of(book, script):
    """The dictionary from the spots, ascending, to the terms and aims there when a script was played on a new bench."""
    bench = Bench(book)
    _need_script(script)
    _said_to_all(bench, script)
    return {spot: (bench.term_there(spot), bench.aim_there(spot)) for spot in bench.spots()}


def shortened(book, script):
    """The script without each command, from the last one on, without which what is left ends as the whole script."""
    end = end_of(book, script)
    kept = _script_anew(script)
    for at in range(len(kept) - 1, -1, -1):
        without = kept[:at] + kept[at + 1:]
        if end_of(book, without) == end:
            kept = without
    return kept


def _script_anew(script):
    """A script equal to another one, with lists of its own."""
    return [("try", _script_anew(command[1])) if command[0] == "try" else command for command in script]
