"""Programs: lines that name sums and products, so that parts are shared."""

from kindspreads.errors import Apart, InvalidInputs, InvalidLines, InvalidProgram, InvalidTerm, Unlike
from kindspreads.kin import are_kin_nodes
from kindspreads.nodes import flat, inner_nodes
from kindspreads.plain import is_one_of, is_word, name_at
from kindspreads.terms import need_book, need_ground, need_node
from kindspreads.valued import are_inputs_of, need_world

SORTS = ("sum", "product")


class Program:
    """A book, and lines each of which names a sum or a product of things and elder names."""

    def __init__(self, book, lines):
        need_book(book)
        if not _are_lines(book.things(), lines):
            raise InvalidLines(lines)
        self._book = book
        # The package reads these tuples where a caller gets lists of his own.
        self.told_lines = [(name, word, _row_of(word, names)) for name, word, names in lines]

    def __eq__(self, other):
        return isinstance(other, Program) and self._book == other._book and self.told_lines == other.told_lines

    def book(self):
        """The book of the program."""
        return self._book

    def lines(self):
        """The list of the lines, the names of each sum ascending."""
        return [(name, word, list(names)) for name, word, names in self.told_lines]


def _row_of(word, names):
    """The names of a line as a tuple, those of a sum ascending."""
    return tuple(sorted(names)) if word == "sum" else tuple(names)


def _are_lines(things, value):
    """Whether any object is a list, not empty, of lines over some things."""
    if not isinstance(value, list) or not value:
        return False
    known = {thing: True for thing in things}
    for line in value:
        if not _is_line(known, line):
            return False
        known[line[0]] = True
    return True


def _is_line(known, value):
    """Whether any object is a line that names something anew, of known things and names."""
    if not isinstance(value, tuple) or len(value) != 3:
        return False
    name, word, names = value
    if not is_word(name) or name in known or not is_one_of(word, SORTS):
        return False
    if not isinstance(names, list) or len(names) < 2:
        return False
    return all([is_one_of(each, known) for each in names])


def _need_program(value):
    if not isinstance(value, Program):
        raise InvalidProgram(value)


def _need_like_programs(one, other):
    _need_program(one)
    _need_program(other)
    if one.book() != other.book():
        raise Unlike(other)


def _nodes_of(ground, program):
    """The dictionary from the names, in the order of the lines, to the nodes of their terms."""
    known = {thing: node for thing, node in ground.things.items()}
    for name, word, names in program.told_lines:
        known[name] = flat(ground, word, [known[each] for each in names])
    return {name: known[name] for name, _, _ in program.told_lines}


def _result_node(ground, program):
    return _nodes_of(ground, program)[program.told_lines[-1][0]]


def result_of(program):
    """The term of the last line's name."""
    _need_program(program)
    return _result_node(need_ground(program.book()), program).term()


def terms_of(program):
    """The dictionary from the names, in the order of the lines, to their terms."""
    _need_program(program)
    return {name: node.term() for name, node in _nodes_of(need_ground(program.book()), program).items()}


def sorts_of(program):
    """The dictionary from the names, in the order of the lines, to the kinds of their terms."""
    _need_program(program)
    return {name: node.kind for name, node in _nodes_of(need_ground(program.book()), program).items()}


def signs_in(program):
    """The tuple of how many plus signs and how many times signs the lines have."""
    _need_program(program)
    plus, times = [_signs_in_lines(program, word) for word in SORTS]
    return plus, times


def _signs_in_lines(program, sort):
    return sum([len(names) - 1 for _, word, names in program.told_lines if word == sort])


def trimmed(program):
    """The program with the lines alone that the result hangs on."""
    _need_program(program)
    lines = program.lines()
    wanted = {lines[-1][0]: True}
    kept = []
    for name, word, names in lines[::-1]:
        if name in wanted:
            kept.append((name, word, names))
            for each in names:
                wanted[each] = True
    return Program(program.book(), kept[::-1])


def merged(program):
    """The program in which lines of the same word and names are one, the first one; the last line stays."""
    _need_program(program)
    # Names stand for themselves until their lines turn out to be like elder ones.
    exchange = {}
    first = {}
    kept = []
    last = program.told_lines[-1][0]
    for name, word, names in program.told_lines:
        row = _row_of(word, [exchange.get(each, each) for each in names])
        if name != last and (word, row) in first:
            exchange[name] = first[(word, row)]
        else:
            first[(word, row)] = name
            kept.append((name, word, list(row)))
    return Program(program.book(), kept)


def program_of(book, term):
    """Any program whose result is a term and whose lines make just its unlike inner sums and products, one each."""
    nodes = _need_inner_lines(need_ground(book), term)
    names = {}
    lines = []
    for name, node in zip(_free_names(book.things(), len(nodes)), nodes):
        names[node.text] = name
        lines.append((name, node.word, [names.get(part.text, part.text) for part in node.parts]))
    return Program(book, lines)


def _need_inner_lines(ground, term):
    """The unlike inner sums and products of a sum or a product, parts ahead of what they are parts of."""
    node = need_node(ground, term)
    if node.word == "thing":
        raise InvalidTerm(term)
    nodes = [inner for inner in inner_nodes(node).values() if inner.word != "thing"]
    # The text of a part is within the text of the whole, so it is shorter.
    return sorted(nodes, key=lambda each: len(each.text))


def _free_names(things, many):
    """So many words that are no things: of a few more words there are always enough."""
    words = [name_at(place) for place in range(many + len(things))]
    return [word for word in words if word not in things][:many]


def is_program_of(book, term, value):
    """Whether any object is a program that makes a term and just its unlike inner sums and products, one each."""
    ground = need_ground(book)
    wanted = _need_inner_lines(ground, term)
    if not isinstance(value, Program) or value.book() != book or len(value.told_lines) != len(wanted):
        return False
    made = [node.text for node in _nodes_of(ground, value).values()]
    return made[-1] == wanted[-1].text and sorted(made) == sorted([node.text for node in wanted])


def fewest_lines(book, term):
    """How many lines a program has that makes just the unlike inner sums and products of a term, one each."""
    return len(_need_inner_lines(need_ground(book), term))


def same_everywhere(one, other):
    """Whether the terms of two programs are kin."""
    _need_like_programs(one, other)
    return _are_the_same(one, other)


def _are_the_same(one, other):
    ground = need_ground(one.book())
    return are_kin_nodes(ground, _result_node(ground, one), _result_node(ground, other))


def saved(one, other):
    """The tuple of how many plus signs and how many times signs the second one of two programs has fewer."""
    _need_like_programs(one, other)
    if not _are_the_same(one, other):
        raise Apart(other)
    plus, times = signs_in(one)
    other_plus, other_times = signs_in(other)
    return plus - other_plus, times - other_times


def values_there(program, world, inputs):
    """The dictionary from the names, in the order of the lines, to their values by inputs in a world."""
    _need_program(program)
    need_world(world)
    ground = need_ground(program.book())
    if program.book().rule().kinds() != world.kinds():
        raise Unlike(world)
    if not are_inputs_of(world, ground, inputs):
        raise InvalidInputs(inputs)
    known = {thing: world.place_of[value] for thing, value in inputs.items()}
    for name, word, names in program.told_lines:
        known[name] = _place_together(world, word, [known[each] for each in names])
    return {name: world.value_words[known[name]] for name, _, _ in program.told_lines}


def _place_together(world, word, places):
    """The place of the value of a sum or a product of values at some places."""
    rows = world.sum_rows if word == "sum" else world.product_rows
    made = places[0]
    for place in places[1:]:
        made = rows[made][place]
    return made
