"""Foldings: which kinds may be taken as one without any spread of any term being another."""

from kindspreads.errors import InvalidFolding, InvalidKind
from kindspreads.kinds import Kinds
from kindspreads.plain import is_count_below, is_one_of, is_row_of
from kindspreads.rules import SIDES, Rule, need_rule
from kindspreads.terms import Book, need_book

STEPS = ("plus", "ahead", "behind")


def is_folding(rule, value):
    """Whether any object is a folding of a rule, its lists and the list of them ascending."""
    need_rule(rule)
    return _is_parting(rule.kinds().kind_words, value) and _is_kept_by(rule, value)


def _is_parting(words, value):
    """Whether any object is an ascending list of ascending lists, not empty, in which each word is just once."""
    if not isinstance(value, list) or not all([is_row_of(row, words) for row in value]):
        return False
    told = [word for row in value for word in row]
    if [] in value or sorted(told) != words:
        return False
    return value == sorted([sorted(row) for row in value])


def _is_kept_by(rule, lists):
    """Whether alike kinds make alike kinds, and stand in alike triples: a parting that does so is a folding."""
    place_of = {kind: place for place, row in enumerate(lists) for kind in row}
    pairs = [(row[0], kind) for row in lists for kind in row[1:]]
    for one, other in pairs:
        if _parting_place(rule, one, other) is not None:
            return False
        for after_one, after_other in _steps_on(rule, one, other).values():
            if place_of[after_one] != place_of[after_other]:
                return False
    return True


def _steps_on(rule, one, other):
    """The dictionary from all single steps to the kinds to which they lead from two kinds."""
    kinds = rule.kinds()
    return {
        (word, beside): (_led_by(kinds, word, beside, one), _led_by(kinds, word, beside, other))
        for word in STEPS
        for beside in kinds.kind_words
    }


def _led_by(kinds, word, beside, kind):
    """The kind to which a step leads from a kind."""
    if word == "plus":
        return kinds.sum_table[(kind, beside)]
    return kinds.product_table[(beside, kind) if word == "ahead" else (kind, beside)]


def _parting_place(rule, one, other):
    """Any tuple of a side, a place and the kinds beside it that makes a triple of just one of two kinds, or None."""
    words = rule.kinds().kind_words
    if one != other:
        for side in SIDES:
            for place in range(3):
                for beside in [(first, second) for first in words for second in words]:
                    if _is_triple_at(rule, side, place, beside, one) != _is_triple_at(rule, side, place, beside, other):
                        return side, place, beside
    return None


def _is_triple_at(rule, side, place, beside, kind):
    return (*beside[:place], kind, *beside[place:]) in rule.triples[side]


def all_foldings(rule):
    """The ascending list of all foldings of a rule."""
    need_rule(rule)
    partings = [[]]
    for word in rule.kinds().kind_words:
        partings = [after for lists in partings for after in _with_word(lists, word)]
    return sorted([lists for lists in partings if _is_kept_by(rule, lists)])


def _with_word(lists, word):
    """The partings that come if a word, greater than all others, goes into a list or makes one of its own."""
    joined = [lists[:at] + [row + [word]] + lists[at + 1:] for at, row in enumerate(lists)]
    return joined + [lists + [[word]]]


def coarsest(rule):
    """The folding in whose lists those of each other folding lie."""
    need_rule(rule)
    lists = []
    for kind in rule.kinds().kind_words:
        alike = [row for row in lists if _telling_of(rule, row[0], kind) is None]
        if alike:
            alike[0].append(kind)
        else:
            lists.append([kind])
    return lists


def telling(rule, one, other):
    """Any telling of two kinds, None if the coarsest folding has both in one list."""
    _need_rule_and_kinds(rule, one, other)
    return _telling_of(rule, one, other)


def _need_rule_and_kinds(rule, one, other):
    need_rule(rule)
    for kind in (one, other):
        if not is_one_of(kind, rule.kinds().kind_words):
            raise InvalidKind(kind)


def _telling_of(rule, one, other):
    """Any telling of two kinds with as few steps as can be, None if there is none."""
    steps_to = {(one, other): []}
    ahead = [(one, other)]
    while ahead:
        reached = []
        for pair in ahead:
            found = _parting_place(rule, pair[0], pair[1])
            if found is not None:
                side, place, beside = found
                return side, steps_to[pair], place, beside
            for step, after in _steps_on(rule, pair[0], pair[1]).items():
                if after not in steps_to:
                    steps_to[after] = steps_to[pair] + [step]
                    reached.append(after)
        ahead = reached
    return None


def is_telling(rule, one, other, value):
    """Whether any object is a telling of two kinds."""
    _need_rule_and_kinds(rule, one, other)
    words = rule.kinds().kind_words
    if not isinstance(value, tuple) or len(value) != 4:
        return False
    side, steps, place, beside = value
    if not is_one_of(side, SIDES) or not is_count_below(place, 3) or not _are_steps(words, steps):
        return False
    if not isinstance(beside, tuple) or not is_row_of(list(beside), words) or len(beside) != 2:
        return False
    ends = [_led_along(rule.kinds(), steps, kind) for kind in (one, other)]
    some, others = [_is_triple_at(rule, side, place, beside, kind) for kind in ends]
    return some != others


def _are_steps(words, value):
    """Whether any object is a list of steps."""
    if not isinstance(value, list):
        return False
    return all([_is_step(words, each) for each in value])


def _is_step(words, value):
    if not isinstance(value, tuple) or len(value) != 2:
        return False
    return is_one_of(value[0], STEPS) and is_one_of(value[1], words)


def _led_along(kinds, steps, kind):
    """The kind to which steps, one after the other, lead from a kind."""
    there = kind
    for word, beside in steps:
        there = _led_by(kinds, word, beside, there)
    return there


def folded_rule(rule, lists):
    """The rule over the lists of a folding, each named by its least kind."""
    need_rule(rule)
    _need_folding(rule, lists)
    return _rule_of_names(rule, _names_by(lists))


def _need_folding(rule, lists):
    if not is_folding(rule, lists):
        raise InvalidFolding(lists)


def _names_by(lists):
    """The dictionary from the kinds to the least ones of their lists."""
    return {kind: row[0] for row in lists for kind in row}


def _rule_of_names(rule, names):
    """The rule of the kinds that name others, all being exchanged for their names."""
    kinds = rule.kinds()
    tables = [
        {pair: names[made] for pair, made in table.items() if _are_names(names, pair)}
        for table in (kinds.sum_table, kinds.product_table)
    ]
    left, right = [[triple for triple in rule.triples[side] if _are_names(names, triple)] for side in SIDES]
    return Rule(Kinds(tables[0], tables[1]), left, right)


def _are_names(names, row):
    return all([names[kind] == kind for kind in row])


def folded_book(book, lists):
    """The book over the folded rule in which each thing is of the kind that names the list of its own."""
    need_book(book)
    _need_folding(book.rule(), lists)
    names = _names_by(lists)
    return Book(_rule_of_names(book.rule(), names), {thing: names[kind] for thing, kind in book.things().items()})
