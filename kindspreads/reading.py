"""Reading the text of a term."""

from kindspreads.nodes import form_text


def term_read(text):
    """The term by its form whose text this is, None if it is the text of none.

    The reading lets pass more than texts of terms; the text of what was read tells whether it was one.
    """
    if not isinstance(text, str):
        return None
    term = _loosely_read(text)
    return term if form_text(term) == text else None


def _loosely_read(text):
    # Of each open bracket, and of the whole, the summands so far, each a list of its factors.
    opened = [[[]]]
    for token in text.split(" "):
        if token == "+":
            opened[-1].append([])
            continue
        inner = token.lstrip("(")
        word = inner.rstrip(")")
        for _ in range(len(token) - len(inner)):
            opened.append([[]])
        opened[-1][-1].append(word)
        for _ in range(len(inner) - len(word)):
            closed = _sum_read(opened.pop())
            if not opened:
                return None
            opened[-1][-1].append(closed)
    return _sum_read(opened[0]) if len(opened) == 1 else None


def _sum_read(summands):
    return _together("sum", [_together("product", factors) for factors in summands])


def _together(word, parts):
    return parts[0] if len(parts) == 1 else (word, *parts)
