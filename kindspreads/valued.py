"""Worlds of values, and the values that terms have in them."""

from kindspreads.errors import InvalidHolding, InvalidInputs, InvalidTable, InvalidTerms, InvalidTriples, InvalidWord
from kindspreads.errors import InvalidWorld, Unlike
from kindspreads.kinds import need_kinds, opposite, plus_rows, times_rows, triples_holding
from kindspreads.nodes import things_of
from kindspreads.plain import is_one_of, is_row_of
from kindspreads.rules import SIDES, Rule, is_triple_of, need_rule, turned, with_turned
from kindspreads.tables import table_of
from kindspreads.terms import need_book, need_ground, need_node
from kindspreads.walks import listed_nodes


class World:
    """A plus table and a times table of the same values, and for each kind the values of it."""

    def __init__(self, plus, times, kinds, holding):
        sums = plus_rows(plus)
        if sums is None:
            raise InvalidTable(plus)
        products = times_rows(times)
        if products is None or products.names != sums.names:
            raise InvalidTable(times)
        need_kinds(kinds)
        if not _is_holding(sums, products, kinds, holding):
            raise InvalidHolding(holding)
        self._kinds = kinds
        self.held_words = {kind: list(holding[kind]) for kind in kinds.kind_words}
        # Values are reckoned with by their places among the words; the package changes nothing of it.
        self.value_words = sums.names
        self.sum_rows = sums.rows
        self.product_rows = products.rows
        self.place_of = _places_of(sums.names)
        self.held = {kind: [self.place_of[value] for value in holding[kind]] for kind in kinds.kind_words}

    def __eq__(self, other):
        return (
            isinstance(other, World)
            and self.value_words == other.value_words
            and self.sum_rows == other.sum_rows
            and self.product_rows == other.product_rows
            and self._kinds == other._kinds
            and self.held_words == other.held_words
        )

    def plus(self):
        """The plus table, its keys ascending."""
        return table_of(self.value_words, self.sum_rows)

    def times(self):
        """The times table, its keys ascending."""
        return table_of(self.value_words, self.product_rows)

    def kinds(self):
        """The Kinds of the world."""
        return self._kinds

    def holding(self):
        """The dictionary from the kinds, ascending, to the lists of their values."""
        return {kind: list(self.held_words[kind]) for kind in self.held_words}

    def words(self):
        """The ascending list of the values."""
        return list(self.value_words)


def _places_of(words):
    return {word: place for place, word in enumerate(words)}


def _is_holding(sums, products, kinds, value):
    """Whether any object tells for each kind its values, such that sums and products are of their kinds."""
    if not isinstance(value, dict) or len(value) != len(kinds.kind_words):
        return False
    places = _places_of(sums.names)
    held = {}
    for kind in kinds.kind_words:
        row = value.get(kind)
        if not row or not is_row_of(row, places) or row != sorted(set(row)):
            return False
        held[kind] = {places[word]: True for word in row}
    return _is_kept_to(sums.rows, kinds.sum_table, held) and _is_kept_to(products.rows, kinds.product_table, held)


def _is_kept_to(rows, table, held):
    """Whether values of two kinds make values of the kind that a table of kinds tells."""
    for (first, second), made in table.items():
        there = held[made]
        for one in held[first]:
            row = rows[one]
            if not all([row[other] in there for other in held[second]]):
                return False
    return True


def need_world(value):
    """Raise an error for what is no world."""
    if not isinstance(value, World):
        raise InvalidWorld(value)


def parting_values(world, word, triple):
    """Any three values of the kinds of a triple for which it does not spread, None if there are none."""
    _need_triple(world, word, triple)
    found = _parting_places(world, word, triple)
    if found is None:
        return None
    return tuple([world.value_words[place] for place in found])


def are_parting_values(world, word, triple, value):
    """Whether any object is a tuple of three values of the kinds of a triple for which it does not spread."""
    _need_triple(world, word, triple)
    if not isinstance(value, tuple) or len(value) != 3:
        return False
    held = world.held_words
    if not all([is_one_of(each, held[kind]) for each, kind in zip(value, triple)]):
        return False
    return _are_parted(world, word, [world.place_of[each] for each in value])


def _need_triple(world, word, triple):
    need_world(world)
    if not is_one_of(word, SIDES):
        raise InvalidWord(word)
    if not is_triple_of(world.kinds(), word, triple):
        raise InvalidTriples(triple)


def _are_parted(world, word, places):
    sums, products = world.sum_rows, world.product_rows
    first, second, third = places
    if word == "left":
        return products[first][sums[second][third]] != sums[products[first][second]][products[first][third]]
    return products[sums[first][second]][third] != sums[products[first][third]][products[second][third]]


def _parting_places(world, word, triple):
    """The places of three values for which a triple does not spread, None if there are none."""
    first, second, third = [world.held[kind] for kind in triple]
    for one in first:
        for other in second:
            parted = _parted_thirds(world, word, one, other, third)
            if parted:
                return [one, other, parted[0]]
    return None


def _parted_thirds(world, word, one, other, thirds):
    """The third values with which two values, the first ones of a triple, do not spread."""
    sums, products = world.sum_rows, world.product_rows
    if word == "left":
        row, added, made = products[one], sums[other], sums[products[one][other]]
        return [third for third in thirds if row[added[third]] != made[row[third]]]
    row, times_one, times_other = products[sums[one][other]], products[one], products[other]
    return [third for third in thirds if row[third] != sums[times_one[third]][times_other[third]]]


def fits(world, rule):
    """Whether all triples of a rule of the world's Kinds spread in it."""
    need_world(world)
    need_rule(rule)
    if rule.kinds() != world.kinds():
        raise Unlike(rule)
    return fits_rule(world, rule)


def fits_rule(world, rule):
    """Whether all triples of a rule of the world's Kinds spread in it."""
    told = [(word, triple) for word in SIDES for triple in rule.triples[word] if triple <= turned(word, triple)]
    return all([_parting_places(world, word, triple) is None for word, triple in told])


def rule_of(world):
    """The rule of ALL triples that spread in a world."""
    need_world(world)
    left, right = [_spreading_triples(world, word) for word in SIDES]
    return Rule(world.kinds(), left, right)


def _spreading_triples(world, word):
    could_be = [triple for triple in triples_holding(world.kinds(), word) if triple <= turned(word, triple)]
    return with_turned(word, [triple for triple in could_be if _parting_places(world, word, triple) is None])


def mirrored_world(world):
    """The world with times turned about, over the Kinds with times turned about."""
    need_world(world)
    times = world.times()
    mirrored = {(first, second): times[(second, first)] for first, second in times}
    return World(world.plus(), mirrored, opposite(world.kinds()), world.holding())


def need_world_and_ground(world, book):
    """The ground of a book over the Kinds of a world; errors for what is no world and no such book."""
    need_world(world)
    need_book(book)
    if book.rule().kinds() != world.kinds():
        raise Unlike(book)
    return need_ground(book)


def are_inputs(world, book, value):
    """Whether any object is a dictionary from just the things of a book to values of their kinds."""
    return are_inputs_of(world, need_world_and_ground(world, book), value)


def are_inputs_of(world, ground, value):
    """Whether any object is a dictionary from just the things of a ground to values of their kinds."""
    if not isinstance(value, dict) or len(value) != len(ground.sorts):
        return False
    held = world.held_words
    return all([is_one_of(value.get(thing), held[kind]) for thing, kind in ground.sorts.items()])


def value_of(world, book, inputs, term):
    """The value that a term has by inputs."""
    ground = need_world_and_ground(world, book)
    if not are_inputs_of(world, ground, inputs):
        raise InvalidInputs(inputs)
    return value_by(world, inputs, need_node(ground, term))


def value_by(world, inputs, node):
    """The value that a node has by inputs."""
    places = {thing: world.place_of[value] for thing, value in inputs.items()}
    return world.value_words[_place_of_node(world, node, places)]


def _place_of_node(world, node, places):
    """The place of the value of a node, by the places of the values of the things."""
    if node.word == "thing":
        return places[node.text]
    rows = world.sum_rows if node.word == "sum" else world.product_rows
    made = _place_of_node(world, node.parts[0], places)
    for part in node.parts[1:]:
        made = rows[made][_place_of_node(world, part, places)]
    return made


def same_always(world, book, one, other):
    """Whether two terms have the same value for ALL inputs."""
    return parting_inputs(world, book, one, other) is None


def parting_inputs(world, book, one, other):
    """Any inputs for which two terms have unlike values, None if there are none."""
    ground = need_world_and_ground(world, book)
    nodes = [need_node(ground, term) for term in (one, other)]
    return _parting_inputs_of_nodes(world, ground, nodes)


def _parting_inputs_of_nodes(world, ground, nodes):
    for places in _all_places(world, ground, nodes):
        if _place_of_node(world, nodes[0], places) != _place_of_node(world, nodes[1], places):
            return {
                thing: world.value_words[places.get(thing, world.held[kind][0])]
                for thing, kind in ground.sorts.items()
            }
    return None


def _all_places(world, ground, nodes):
    """ALL dictionaries from the things of some nodes to places of values of their kinds."""
    things = sorted({thing for node in nodes for thing in things_of(node)})
    rows = [{}]
    for thing in things:
        rows = [{**row, thing: place} for row in rows for place in world.held[ground.sorts[thing]]]
    return rows


def are_parting_inputs(world, book, one, other, value):
    """Whether any object is inputs for which two terms have unlike values."""
    ground = need_world_and_ground(world, book)
    nodes = [need_node(ground, term) for term in (one, other)]
    if not are_inputs_of(world, ground, value):
        return False
    return value_by(world, value, nodes[0]) != value_by(world, value, nodes[1])


def alike_terms(world, book, terms):
    """The lists of the places of terms that have the same value for ALL inputs."""
    ground = need_world_and_ground(world, book)
    nodes = listed_nodes(ground, terms)
    if nodes is None:
        raise InvalidTerms(terms)
    inputs = _all_places(world, ground, nodes)
    found = {}
    for at, node in enumerate(nodes):
        told = tuple([_place_of_node(world, node, places) for places in inputs])
        found.setdefault(told, []).append(at)
    return list(found.values())
