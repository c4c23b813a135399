"""A bench: terms at spots that are spread, gathered and put together step by step, with steps taken back."""

from kindspreads.errors import InvalidBench, InvalidRecord, InvalidSpot, NothingToRedo, NothingToUndo, Refused
from kindspreads.errors import Unsettled
from kindspreads.kin import are_kin_nodes, chain, is_chain
from kindspreads.moves import led_on
from kindspreads.nodes import flat, node_of
from kindspreads.plain import is_count
from kindspreads.shapes import is_settled
from kindspreads.terms import need_book, need_ground, need_node
from kindspreads.walks import is_one_spread

# The words of the commands, and what stands behind each of them.
COMMANDS = {
    "put": ("term",),
    "take": ("spot",),
    "spread": ("spot", "term"),
    "gather": ("spot", "term"),
    "fill": ("spot",),
    "aim": ("spot", "term"),
    "let_go": ("spot",),
    "add": ("spot", "spot"),
    "multiply": ("spot", "spot"),
}


class Page:
    """How a bench stands behind a command; nothing of it is changed once it is made."""

    def __init__(self, terms, aims, many_put, command, before):
        # Dictionaries from the spots, ascending, to the terms and, where there are some, to the aims.
        self.terms = terms
        self.aims = aims
        self.many_put = many_put
        # The command that led here, and the page ahead of it; None of a new bench.
        self.command = command
        self.before = before


class Block:
    """A block of a bench: when it is left, the bench stands as it stood when it was entered."""

    def __init__(self, bench):
        self.bench = bench
        # What it has to restore is told when it is entered.
        self.page = None
        self.undone = None

    def __enter__(self):
        self.page = self.bench.page
        self.undone = self.bench.undone
        return self.bench

    def __exit__(self, kind, value, trace):
        bench = self.bench
        bench.page = self.page
        bench.undone = self.undone


class Bench:
    """A book of a settled rule, and spots with terms of it and perhaps aims."""

    def __init__(self, book):
        need_book(book)
        if not is_settled(book.rule()):
            raise Unsettled(book)
        self._book = book
        self.page = Page({}, {}, 0, None, None)
        # The pages that were taken back, the last one at the end; the list is not changed, but exchanged.
        self.undone = []

    def put(self, term):
        """Put a term at the least count that no spot has had, and tell this count."""
        need_node(need_ground(self._book), term)
        spot = self.page.many_put
        self._turn(("put", term), {**self.page.terms, spot: term}, self.page.aims)
        return spot

    def take(self, spot):
        """Take a spot away."""
        self._need_spot(spot)
        self._turn(("take", spot), _without(self.page.terms, spot), _without(self.page.aims, spot))

    def spots(self):
        """The ascending list of the spots."""
        return list(self.page.terms)

    def term_there(self, spot):
        """The term at a spot."""
        self._need_spot(spot)
        return self.page.terms[spot]

    def aim_there(self, spot):
        """The aim of a spot, None if it has none."""
        self._need_spot(spot)
        return self.page.aims.get(spot)

    def full_there(self, spot):
        """The full spread of the term at a spot."""
        self._need_spot(spot)
        ground, node = self._node_there(spot)
        return led_on(ground, node).term()

    def spread(self, spot, term):
        """Put an outcome of a single spread of the term at a spot in its place."""
        self._need_spot(spot)
        ground, there = self._node_there(spot)
        if not is_one_spread(ground, there, need_node(ground, term)):
            raise Refused(term)
        self._turn(("spread", spot, term), {**self.page.terms, spot: term}, self.page.aims)

    def gather(self, spot, term):
        """Put an outcome of a single gathering of the term at a spot in its place."""
        self._need_spot(spot)
        ground, there = self._node_there(spot)
        if not is_one_spread(ground, need_node(ground, term), there):
            raise Refused(term)
        self._turn(("gather", spot, term), {**self.page.terms, spot: term}, self.page.aims)

    def fill(self, spot):
        """Put the full spread in the place of the term at a spot, and tell how many things are copied on the way."""
        self._need_spot(spot)
        copied = self._many_copied(spot)
        # A spread always copies some things.
        if copied == 0:
            raise Refused(spot)
        self._turn(("fill", spot), {**self.page.terms, spot: self.full_there(spot)}, self.page.aims)
        return copied

    def aim(self, spot, term):
        """Give a spot an aim."""
        self._need_spot(spot)
        ground, there = self._node_there(spot)
        if not are_kin_nodes(ground, there, need_node(ground, term)):
            raise Refused(term)
        self._turn(("aim", spot, term), self.page.terms, {**self.page.aims, spot: term})

    def let_go(self, spot):
        """Take the aim of a spot away."""
        self._need_spot(spot)
        if spot not in self.page.aims:
            raise Refused(spot)
        self._turn(("let_go", spot), self.page.terms, _without(self.page.aims, spot))

    def is_met(self, spot):
        """Whether the term at a spot is its aim, or has none."""
        return self.term_there(spot) == self._end_there(spot)

    def way(self, spot):
        """Any chain from the term at a spot to its aim, or to itself if it has none."""
        self._need_spot(spot)
        return chain(self._book, self.page.terms[spot], self._end_there(spot))

    def is_way(self, spot, value):
        """Whether any object is a chain from the term at a spot to its aim, or to itself if it has none."""
        self._need_spot(spot)
        return is_chain(self._book, self.page.terms[spot], self._end_there(spot), value)

    def add(self, one, other):
        """Put the sum of the terms at two spots at the first one, and take the other one away."""
        self._put_together("add", "sum", one, other)

    def multiply(self, one, other):
        """Put the product of the terms at two spots at the first one, and take the other one away."""
        self._put_together("multiply", "product", one, other)

    def alike_spots(self, spot):
        """The ascending list of the other spots whose terms are kin with the one at a spot."""
        self._need_spot(spot)
        ground = need_ground(self._book)
        nodes = {each: node_of(ground, term) for each, term in self.page.terms.items()}
        others = [each for each in nodes if each != spot]
        return [each for each in others if are_kin_nodes(ground, nodes[spot], nodes[each])]

    def most_copied(self):
        """The ascending list of the spots at which filling would copy most things, empty if it would copy none."""
        copied = {spot: self._many_copied(spot) for spot in self.page.terms}
        most = max(list(copied.values()), default=0)
        return [spot for spot in copied if copied[spot] == most and most > 0]

    def trial(self):
        """A block, at the end of which the bench stands as at its beginning."""
        return Block(self)

    def attempt(self, action):
        """What a function returns that is called with the bench in a block."""
        with self.trial():
            return action(self)

    def copy(self):
        """An independent bench that stands as this one does, and is in no block."""
        other = Bench(self._book)
        other.page = self.page
        other.undone = self.undone
        return other

    def undo(self):
        """Take back the last command."""
        if self.page.before is None:
            raise NothingToUndo()
        self.undone = self.undone + [self.page]
        self.page = self.page.before

    def redo(self):
        """Make the command that was taken back last again."""
        if not self.undone:
            raise NothingToRedo()
        self.page = self.undone[-1]
        self.undone = self.undone[:-1]

    def record(self):
        """The list of the commands that are not taken back, the eldest first."""
        told = []
        page = self.page
        while page.before is not None:
            told.append(page.command)
            page = page.before
        return told[::-1]

    def _need_spot(self, spot):
        if not is_count(spot) or spot not in self.page.terms:
            raise InvalidSpot(spot)

    def _node_there(self, spot):
        """The ground of the book, and the node of the term at a spot."""
        ground = need_ground(self._book)
        return ground, node_of(ground, self.page.terms[spot])

    def _end_there(self, spot):
        """The aim of a spot, the term at it if it has none."""
        return self.page.aims.get(spot, self.page.terms[spot])

    def _many_copied(self, spot):
        ground, node = self._node_there(spot)
        return led_on(ground, node).size() - node.size()

    def _put_together(self, command, word, one, other):
        self._need_spot(one)
        self._need_spot(other)
        if one == other:
            raise InvalidSpot(other)
        for spot in (one, other):
            if spot in self.page.aims:
                raise Refused(spot)
        ground = need_ground(self._book)
        both = flat(ground, word, [node_of(ground, self.page.terms[spot]) for spot in (one, other)])
        terms = _without({**self.page.terms, one: both.term()}, other)
        self._turn((command, one, other), terms, self.page.aims)

    def _turn(self, command, terms, aims):
        """Go on to the page behind a new command: what was taken back cannot be made again then."""
        many_put = self.page.many_put + (1 if command[0] == "put" else 0)
        self.page = Page(terms, aims, many_put, command, self.page)
        self.undone = []


def _without(table, spot):
    return {each: table[each] for each in table if each != spot}


def need_bench(value):
    """Raise an error for what is no bench."""
    if not isinstance(value, Bench):
        raise InvalidBench(value)


def replayed(bench, record):
    """A copy of a bench on which the commands of a record are then made."""
    need_bench(bench)
    if not isinstance(record, list) or not all([_is_command(each) for each in record]):
        raise InvalidRecord(record)
    other = bench.copy()
    for word, *given in record:
        made_on(other, word, given)
    return other


def _is_command(value):
    """Whether any object is a tuple of the word of a command and as many things as belong behind it."""
    if not isinstance(value, tuple) or not value or not isinstance(value[0], str):
        return False
    return value[0] in COMMANDS and len(value) == 1 + len(COMMANDS[value[0]])


def made_on(bench, word, given):
    """What the command of a word, made on a bench, returns."""
    if word == "put":
        return bench.put(*given)
    if word == "take":
        return bench.take(*given)
    if word == "spread":
        return bench.spread(*given)
    if word == "gather":
        return bench.gather(*given)
    if word == "fill":
        return bench.fill(*given)
    if word == "aim":
        return bench.aim(*given)
    if word == "let_go":
        return bench.let_go(*given)
    if word == "add":
        return bench.add(*given)
    return bench.multiply(*given)
