"""Nodes: terms that know their texts and kinds, and how they are put together flat.

A ground has one node for each term that was ever made on it, so that like terms are the same node
and what was once found out about a term is kept with it.
"""

from kindspreads.kinds import put_together
from kindspreads.plain import is_word


# So many terms that were judged last are kept: looking through more would take longer than judging anew.
MOST_JUDGED = 30


class Node:
    """A thing, a sum or a product of a ground, its parts being nodes of this ground, too."""

    def __init__(self, word, parts, part_kinds, text, factor_text, kind, is_row):
        self.word = word
        self.parts = parts
        # The kinds of the parts, as a tuple.
        self.part_kinds = part_kinds
        self.text = text
        self.factor_text = factor_text
        self.kind = kind
        # Whether it is a thing or a row of things: such a one has neither a spread nor a gathering, whatever the rule.
        self.is_row = is_row
        # Most nodes are steps on the way to others: these are told when they are asked for, see term and wholes.
        self.term_made = text if word == "thing" else None
        self.measure = None

    def term(self):
        """The term of the node."""
        if self.term_made is None:
            self.term_made = (self.word, *[part.term_made or part.term() for part in self.parts])
        return self.term_made

    def size(self):
        """How many things the node has, each as often as it stands."""
        # In the text things and plus signs stand between blanks.
        return self.text.count(" ") + 1 - self.text.count("+")


class Ground:
    """What nodes are made by: the tables and the triples of a rule, and the kinds of things."""

    def __init__(self, rule, sorts):
        self.rule = rule
        self.sums = rule.kinds().sum_table
        self.products = rule.kinds().product_table
        self.triples = rule.triples
        # The kinds of blocks that spread with any lots at all.
        self.blocks = {
            "left": {triple[0]: True for triple in rule.triples["left"]},
            "right": {triple[2]: True for triple in rule.triples["right"]},
        }
        self.sorts = sorts
        self.things = {thing: Node("thing", [], (), thing, thing, kind, True) for thing, kind in sorts.items()}
        # All sums and products that were made, by their texts: terms nest too deep to be keys themselves.
        self.known = {}
        # The terms that were judged last, and their nodes, in one order: see node_in.
        self.judged = []
        self.judged_nodes = []
        # What was found out about nodes, by these: see moves, and for the last one walks.
        self.lots = {}
        self.splits = {}
        self.gathered = {}
        self.onward = {}
        self.backward = {}
        self.fulls = {}
        self.classes = {}
        # What only the kinds of summands and blocks tell: see moves.
        self.cuts = {}
        self.plans = {}
        self.fitting_lots = {}


def flat_sum(ground, nodes):
    """The sum of nodes, the summands of sums standing by themselves; one alone is itself."""
    return summands_together(ground, _parts_apart("sum", nodes))


def flat_product(ground, nodes):
    """The product of nodes, the factors of products standing by themselves; one alone is itself."""
    return factors_together(ground, _parts_apart("product", nodes))


def flat(ground, word, nodes):
    """The sum or the product of nodes, by its word."""
    if word == "sum":
        return flat_sum(ground, nodes)
    return flat_product(ground, nodes)


def summands_together(ground, summands):
    """The sum of some summands, none of them a sum, in any order; one alone is itself."""
    if len(summands) == 1:
        return summands[0]
    # Most sums are known already: then it is enough to put their texts in order.
    texts = [part.text for part in summands]
    rising = sorted(texts)
    text = " + ".join(rising)
    node = ground.known.get(text)
    if node is None:
        parts = summands if texts == rising else sorted(summands, key=lambda part: part.text)
        kinds = tuple([part.kind for part in parts])
        # A sum of things alone has no blanks but those beside its plus signs.
        is_row = text.count(" ") == 2 * len(parts) - 2
        node = Node("sum", parts, kinds, text, f"({text})", put_together(ground.sums, kinds), is_row)
        ground.known[text] = node
    return node


def factors_together(ground, factors):
    """The product of some factors, none of them a product; one alone is itself."""
    if len(factors) == 1:
        return factors[0]
    text = " ".join([part.factor_text for part in factors])
    node = ground.known.get(text)
    if node is None:
        kinds = tuple([part.kind for part in factors])
        is_row = "(" not in text
        node = Node("product", factors, kinds, text, text, put_together(ground.products, kinds), is_row)
        ground.known[text] = node
    return node


def _parts_apart(word, nodes):
    parts = []
    for node in nodes:
        if node.word == word:
            parts.extend(node.parts)
        else:
            parts.append(node)
    return parts


def with_part(ground, node, at, part):
    """A node with another part in the place of one, put together flat."""
    middle = part.parts if part.word == node.word else [part]
    parts = node.parts[:at] + middle + node.parts[at + 1:]
    return summands_together(ground, parts) if node.word == "sum" else factors_together(ground, parts)


def node_of(ground, term):
    """The node of a term whose things have kinds in the ground."""
    if isinstance(term, str):
        return ground.things[term]
    return flat(ground, term[0], [node_of(ground, part) for part in term[1:]])


def node_in(ground, value):
    """The node of any object that is a term of the ground's things, None of any other one."""
    if isinstance(value, str):
        return ground.things.get(value)
    if not isinstance(value, tuple):
        return None
    # Most terms are passed several times: as they are made of tuples and strings, nobody can change them.
    if value in ground.judged:
        return ground.judged_nodes[ground.judged.index(value)]
    node = _node_judged(ground, value)
    if node is not None:
        if len(ground.judged) == MOST_JUDGED:
            ground.judged = []
            ground.judged_nodes = []
        ground.judged.append(value)
        ground.judged_nodes.append(node)
    return node


def _node_judged(ground, value):
    """The node of any object that is a sum or a product of the ground's things, None of any other one."""
    if not isinstance(value, tuple) or len(value) < 3:
        return None
    word = value[0]
    if word != "sum" and word != "product":
        return None
    parts = []
    for part in value[1:]:
        node = ground.things.get(part) if isinstance(part, str) else _node_judged(ground, part)
        if node is None or node.word == word:
            return None
        parts.append(node)
    if word == "product":
        return factors_together(ground, parts)
    texts = [part.text for part in parts]
    return summands_together(ground, parts) if texts == sorted(texts) else None


def by_text(nodes):
    """The unlike ones of some nodes, ascending by their texts."""
    found = {node.text: node for node in nodes}
    return [found[text] for text in sorted(found)]


def terms_by_text(nodes):
    """The terms of the unlike ones of some nodes, ascending by their texts."""
    return [node.term() for node in by_text(nodes)]


def inner_nodes(node):
    """A node, its parts, theirs, and so on: a dictionary from their texts."""
    found = {node.text: node}
    for part in node.parts:
        found.update(inner_nodes(part))
    return found


def things_of(node):
    """The things of a node, each as often as it stands."""
    if node.word == "thing":
        return [node.text]
    return [thing for part in node.parts for thing in things_of(part)]


def form_text(value):
    """The text of a term by its form, None of any other object."""
    if isinstance(value, str):
        return value if is_word(value) else None
    if not isinstance(value, tuple) or len(value) < 3:
        return None
    word = value[0]
    if word != "sum" and word != "product":
        return None
    texts = []
    for part in value[1:]:
        text = form_text(part)
        if text is None or (isinstance(part, tuple) and part[0] == word):
            return None
        texts.append(f"({text})" if word == "product" and isinstance(part, tuple) else text)
    if word == "product":
        return " ".join(texts)
    return " + ".join(texts) if texts == sorted(texts) else None
