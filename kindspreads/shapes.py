"""Shapes: the small terms that settle whether full spreads of a rule hang on what is spread first."""

from itertools import combinations

from kindspreads.errors import InvalidCount, InvalidKinds
from kindspreads.moves import full_nodes, led_on, spread_moves
from kindspreads.nodes import Ground, flat_product, flat_sum, node_in, terms_by_text
from kindspreads.plain import LETTERS, is_count_below, is_row_of, name_at
from kindspreads.rules import Rule, both_ways, is_within, need_rule, rule_with, turned
from kindspreads.settling import doubtful_rows
from kindspreads.terms import Book, need_ground

SHAPES = (
    (1, 2), (1, 1, 2), (2, 1), (2, 1, 1), (1, 2, 1),
    (1, 3), (1, 1, 3), (3, 1), (3, 1, 1), (1, 3, 1),
    (1, 4), (1, 1, 4), (4, 1), (4, 1, 1), (1, 4, 1),
    (2, 2), (1, 2, 2), (2, 1, 2), (2, 2, 1),
    (1, 2, 1, 2), (1, 2, 2, 1), (2, 1, 2, 1), (1, 2, 1, 2, 1),
    (1, 1, 2, 2), (1, 1, 2, 1, 2), (2, 2, 1, 1), (2, 1, 2, 1, 1), (2, 1, 1, 2), (2, 1, 1, 1, 2),
)

MOST_THINGS = 7


def shapes():
    """The list of the 29 shapes, each a list of numbers."""
    return [list(shape) for shape in SHAPES]


def shape_term(rule, number, row):
    """A book of the rule and its term of a shape whose things, from left to right, are of these kinds."""
    need_rule(rule)
    if not is_count_below(number, len(SHAPES)):
        raise InvalidCount(number)
    if not _is_row_of_shape(rule, number, row):
        raise InvalidKinds(row)
    book = _shape_book(rule, row)
    return book, _shape_node(need_ground(book), number, LETTERS).term()


def _is_row_of_shape(rule, number, value):
    return is_row_of(value, rule.kinds().words()) and len(value) == sum(SHAPES[number])


def _shape_book(rule, row):
    others = [kind for kind in rule.kinds().words() if kind not in row]
    return Book(rule, {name_at(at): kind for at, kind in enumerate(row + others)})


def _shape_node(ground, number, things):
    factors = []
    at = 0
    for many in SHAPES[number]:
        factors.append(flat_sum(ground, [ground.things[thing] for thing in things[at:at + many]]))
        at += many
    return flat_product(ground, factors)


def is_settled(rule):
    """Whether each term of ANY size has one full spread, whatever is spread first."""
    need_rule(rule)
    return _parting_row(rule) is None


def unsettled(rule):
    """Any tuple of a shape's number, a row and two unlike full spreads, None of a settled rule."""
    need_rule(rule)
    found = _parting_row(rule)
    if found is None:
        return None
    number, row = found[0], list(found[1])
    ground = need_ground(_shape_book(rule, row))
    fulls = terms_by_text(_ends_of_spreads(ground, _shape_node(ground, number, LETTERS)))
    return number, row, fulls[0], fulls[1]


def is_unsettled(rule, value):
    """Whether any object is a shape's number, a row and two unlike full spreads of its term."""
    need_rule(rule)
    if not isinstance(value, tuple) or len(value) != 4:
        return False
    number, row, one, other = value
    if not is_count_below(number, len(SHAPES)) or not _is_row_of_shape(rule, number, row):
        return False
    ground = need_ground(_shape_book(rule, row))
    nodes = [node_in(ground, term) for term in (one, other)]
    if None in nodes or nodes[0] == nodes[1]:
        return False
    fulls = _fulls_of_shape(ground, number)
    return all([node in fulls for node in nodes])


def _fulls_of_shape(ground, number):
    return full_nodes(ground, _shape_node(ground, number, LETTERS))


def _parting_row(rule):
    """A shape's number and a row of kinds whose term has unlike full spreads, None if there is none."""
    if "parting row" not in rule.reckoned:
        rule.reckoned["parting row"] = _parting_row_anew(rule)
    return rule.reckoned["parting row"]


def _parting_row_anew(rule):
    rows = doubtful_rows(rule)
    if rows:
        # A thing is named by its letter and its kind, so that what was led on serves for all rows.
        words = rule.kinds().kind_words
        ground = Ground(rule, {letter + kind: kind for letter in LETTERS[:MOST_THINGS] for kind in words})
        for shape, row in rows:
            number = SHAPES.index(shape)
            things = [LETTERS[at] + kind for at, kind in enumerate(row)]
            if _are_parted(ground, _shape_node(ground, number, things)):
                return number, row
    return None


def _are_parted(ground, node):
    """Whether single spreads of a node, each led on in one way, end in unlike terms."""
    return len({end.text for end in _ends_of_spreads(ground, node)}) > 1


def _ends_of_spreads(ground, node):
    """What single spreads of a node, each led on in one way, end in."""
    return [led_on(ground, outcome) for outcome in spread_moves(ground, node)]


def settled_within(rule):
    """The ascending list of the left and right triples of the greatest settled rules within a rule."""
    need_rule(rule)
    found = []
    cases = _cases_once(rule)
    for many in range(len(cases), -1, -1):
        for chosen in combinations(cases, many):
            lesser = _rule_of_cases(rule.kinds(), chosen)
            if not any([is_within(lesser, greater) for greater in found]) and is_settled(lesser):
                found.append(lesser)
    return sorted([(lesser.left(), lesser.right()) for lesser in found])


def _cases_once(rule):
    """The words and triples of a rule, of each two that are turned about in the sum just one."""
    told = [("left", triple) for triple in rule.left()] + [("right", triple) for triple in rule.right()]
    return [(word, triple) for word, triple in told if triple <= turned(word, triple)]


def _rule_of_cases(kinds, cases):
    left = both_ways(kinds, "left", [triple for word, triple in cases if word == "left"])
    right = both_ways(kinds, "right", [triple for word, triple in cases if word == "right"])
    return Rule(kinds, left, right)


def are_settled_beside(rule, left, right):
    """Whether the rule with further triples is settled."""
    return is_settled(rule_with(rule, left, right))
