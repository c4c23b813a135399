"""Terms, spreads and full spreads reckoned anew from the words of the document, slowly and on plain tuples."""

from itertools import combinations


def text(term):
    if isinstance(term, str):
        return term
    if term[0] == "sum":
        return " + ".join(text(part) for part in term[1:])
    return " ".join("(" + text(part) + ")" if part[0] == "sum" else text(part) for part in term[1:])


def is_sum(term):
    return isinstance(term, tuple) and term[0] == "sum"


def is_product(term):
    return isinstance(term, tuple) and term[0] == "product"


def flat(word, terms):
    parts = []
    for term in terms:
        parts += list(term[1:]) if isinstance(term, tuple) and term[0] == word else [term]
    if word == "sum":
        parts.sort(key=text)
    return parts[0] if len(parts) == 1 else (word,) + tuple(parts)


def kind(book, term):
    if isinstance(term, str):
        return book.things()[term]
    kinds = book.rule().kinds()
    made = kind(book, term[1])
    for part in term[2:]:
        made = (kinds.add if term[0] == "sum" else kinds.multiply)(made, kind(book, part))
    return made


def things(term):
    return [term] if isinstance(term, str) else [thing for part in term[1:] for thing in things(part)]


def lots(summands):
    """All ways to cut summands by their places into two lots, in either order."""
    for many in range(1, len(summands)):
        for places in combinations(range(len(summands)), many):
            one = [summands[at] for at in range(len(summands)) if at in places]
            other = [summands[at] for at in range(len(summands)) if at not in places]
            yield flat("sum", one), flat("sum", other)


def tries_at(book, factors):
    """All blocks and lots of a row of factors: tuples of case, what comes, things of the block."""
    for at, factor in enumerate(factors):
        if not is_sum(factor):
            continue
        for one, other in lots(list(factor[1:])):
            for first in range(at):
                block = list(factors[first:at])
                case = ("left", (kind(book, flat("product", block)), kind(book, one), kind(book, other)))
                made = flat("sum", [flat("product", block + [one]), flat("product", block + [other])])
                row = list(factors[:first]) + [made] + list(factors[at + 1:])
                yield case, flat("product", row), sum(len(things(each)) for each in block)
            for last in range(at + 1, len(factors)):
                block = list(factors[at + 1:last + 1])
                case = ("right", (kind(book, one), kind(book, other), kind(book, flat("product", block))))
                made = flat("sum", [flat("product", [one] + block), flat("product", [other] + block)])
                row = list(factors[:at]) + [made] + list(factors[last + 1:])
                yield case, flat("product", row), sum(len(things(each)) for each in block)


def is_in_rule(book, case):
    return case[1] in (book.rule().left() if case[0] == "left" else book.rule().right())


def single_spreads(book, term):
    """All spreads at any depth: tuples of case, outcome, things of the block."""
    if isinstance(term, str):
        return
    if is_product(term):
        for case, made, many in tries_at(book, term[1:]):
            if is_in_rule(book, case):
                yield case, made, many
    for at in range(1, len(term)):
        for case, made, many in single_spreads(book, term[at]):
            yield case, flat(term[0], list(term[1:at]) + [made] + list(term[at + 1:])), many


def outcomes(book, term):
    return sorted({made for _, made, _ in single_spreads(book, term)}, key=text)


def inner(term):
    found = {term}
    if isinstance(term, tuple):
        for part in term[1:]:
            found |= inner(part)
    return found


def reached(book, term):
    """All terms to which spreads lead from a term."""
    found, ahead = {term}, [term]
    while ahead:
        for made in outcomes(book, ahead.pop()):
            if made not in found:
                found.add(made)
                ahead.append(made)
    return found


def fulls(book, term):
    return sorted([each for each in reached(book, term) if not outcomes(book, each)], key=text)


def words(term):
    if isinstance(term, str):
        return [(term,)]
    if term[0] == "sum":
        return [word for part in term[1:] for word in words(part)]
    rows = [()]
    for part in term[1:]:
        rows = [row + word for row in rows for word in words(part)]
    return rows


def all_terms(names, most):
    """All terms of at most so many things: a dictionary from numbers of things to lists of terms."""
    every = {1: sorted(names)}
    for many in range(2, most + 1):
        rows = {"sum": [], "product": []}
        for word, bar in (("sum", is_sum), ("product", is_product)):
            for row in rows_of(every, many, bar):
                if len(row) > 1 and (word == "product" or [text(each) for each in row] == sorted(map(text, row))):
                    rows[word].append((word,) + row)
        every[many] = rows["sum"] + rows["product"]
    return every


def rows_of(every, many, bar):
    """All rows of terms, none of a barred form, that have so many things together."""
    if many == 0:
        return [()]
    return [
        (each,) + row
        for first in range(1, many + 1) if first in every
        for each in every[first] if not bar(each)
        for row in rows_of(every, many - first, bar)
    ]


def way_lengths(book, term):
    """The numbers of spreads of ALL ways from a term to full spreads."""
    found, ahead, steps = set(), {term}, 0
    while ahead:
        further = set()
        for each in ahead:
            after = outcomes(book, each)
            found |= set() if after else {steps}
            further |= set(after)
        ahead, steps = further, steps + 1
    return sorted(found)


def classes(book, terms):
    """The classes of terms among which are all their kin: a dictionary from each term to its class, ascending."""
    heads = {term: [term] for term in terms}
    for term in terms:
        for made in outcomes(book, term):
            if heads[term] is not heads[made]:
                heads[term].extend(heads[made])
                for each in heads[made]:
                    heads[each] = heads[term]
    for row in {id(row): row for row in heads.values()}.values():
        row.sort(key=text)
    return heads


def few_terms(names, most):
    """All terms whose words have at most so many things together: all kin of such terms are among them."""
    every = [term for terms in all_terms(names, most).values() for term in terms]
    return [term for term in every if sum(len(word) for word in words(term)) <= most]


def factor_sums(term):
    """How many sums are factors of products in a term."""
    if isinstance(term, str):
        return 0
    own = sum(1 for part in term[1:] if is_product(term) and is_sum(part))
    return own + sum(factor_sums(part) for part in term[1:])
