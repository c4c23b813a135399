"""Nodes: terms that know their texts and kinds, and how they are put together flat.

A ground has one node for each term that was ever made on it, so that like terms are the same node
and what was once found out about a term is kept with it.
"""

from kindspreads.kinds import put_together
from kindspreads.plain import is_word


class Node:
    """A thing, a sum or a product of a ground, its parts being nodes of this ground, too."""

    def __init__(self, word, parts, text, factor_text, kind):
        self.word = word
        self.parts = parts
        self.text = text
        self.factor_text = factor_text
        self.kind = kind
        # Most nodes are steps on the way to others: their terms are made when they are asked for.
        self.term_made = None

    def term(self):
        """The term of the node."""
        if self.word == "thing":
            return self.text
        if self.term_made is None:
            self.term_made = (self.word, *[part.term() for part in self.parts])
        return self.term_made

    def size(self):
        """How many things the node has, each as often as it stands."""
        # In the text things and plus signs stand between blanks.
        return self.text.count(" ") + 1 - self.text.count("+")


class Ground:
    """What nodes are made by: the tables and the triples of a rule, and the kinds of things."""

    def __init__(self, rule, sorts):
        self.sums = rule.kinds().sum_table
        self.products = rule.kinds().product_table
        self.triples = rule.triples
        self.sorts = sorts
        self.things = {thing: Node("thing", [], thing, thing, kind) for thing, kind in sorts.items()}
        # All sums and products that were made, by their texts: terms nest too deep to be keys themselves.
        self.known = {}
        # What was found out about nodes, by these: see moves, and for the last one walks.
        self.lots = {}
        self.onward = {}
        self.backward = {}
        self.fulls = {}
        self.classes = {}
        # What only the kinds of summands and blocks tell: see moves.
        self.cuts = {}
        self.fitting = {}


def flat_sum(ground, nodes):
    """The sum of nodes, the summands of sums standing by themselves; one alone is itself."""
    parts = _parts_apart("sum", nodes)
    if len(parts) == 1:
        return parts[0]
    return _sum_node(ground, sorted(parts, key=lambda part: part.text))


def flat_product(ground, nodes):
    """The product of nodes, the factors of products standing by themselves; one alone is itself."""
    parts = _parts_apart("product", nodes)
    if len(parts) == 1:
        return parts[0]
    return _product_node(ground, parts)


def flat(ground, word, nodes):
    """The sum or the product of nodes, by its word."""
    if word == "sum":
        return flat_sum(ground, nodes)
    return flat_product(ground, nodes)


def summands_together(ground, summands):
    """The sum of some summands of a sum, which stand in their order; one alone is itself."""
    if len(summands) == 1:
        return summands[0]
    return _sum_node(ground, summands)


def factors_together(ground, factors):
    """The product of some factors, none of them a product; one alone is itself."""
    if len(factors) == 1:
        return factors[0]
    return _product_node(ground, factors)


def _parts_apart(word, nodes):
    parts = []
    for node in nodes:
        if node.word == word:
            parts.extend(node.parts)
        else:
            parts.append(node)
    return parts


def _sum_node(ground, parts):
    text = " + ".join([part.text for part in parts])
    if text not in ground.known:
        kind = put_together(ground.sums, [part.kind for part in parts])
        ground.known[text] = Node("sum", parts, text, f"({text})", kind)
    return ground.known[text]


def _product_node(ground, parts):
    text = " ".join([part.factor_text for part in parts])
    if text not in ground.known:
        kind = put_together(ground.products, [part.kind for part in parts])
        ground.known[text] = Node("product", parts, text, text, kind)
    return ground.known[text]


def with_part(ground, node, at, part):
    """A node with another part in the place of one, put together flat."""
    return flat(ground, node.word, node.parts[:at] + [part] + node.parts[at + 1:])


def node_of(ground, term):
    """The node of a term whose things have kinds in the ground."""
    if isinstance(term, str):
        return ground.things[term]
    return flat(ground, term[0], [node_of(ground, part) for part in term[1:]])


def node_in(ground, value):
    """The node of any object that is a term of the ground's things, None of any other one."""
    if isinstance(value, str):
        return ground.things.get(value)
    if not isinstance(value, tuple) or len(value) < 3:
        return None
    word = value[0]
    if word != "sum" and word != "product":
        return None
    parts = []
    for part in value[1:]:
        node = node_in(ground, part)
        if node is None or node.word == word:
            return None
        parts.append(node)
    if word == "product":
        return _product_node(ground, parts)
    texts = [part.text for part in parts]
    return _sum_node(ground, parts) if texts == sorted(texts) else None


def by_text(nodes):
    """The unlike ones of some nodes, ascending by their texts."""
    found = {node.text: node for node in nodes}
    return [found[text] for text in sorted(found)]


def terms_by_text(nodes):
    """The terms of the unlike ones of some nodes, ascending by their texts."""
    return [node.term() for node in by_text(nodes)]


def inner_nodes(node):
    """A node, its parts, theirs, and so on: a dictionary from their texts."""
    found = {node.text: node}
    for part in node.parts:
        found.update(inner_nodes(part))
    return found


def things_of(node):
    """The things of a node, each as often as it stands."""
    if node.word == "thing":
        return [node.text]
    return [thing for part in node.parts for thing in things_of(part)]


def form_text(value):
    """The text of a term by its form, None of any other object."""
    if isinstance(value, str):
        return value if is_word(value) else None
    if not isinstance(value, tuple) or len(value) < 3:
        return None
    word = value[0]
    if word != "sum" and word != "product":
        return None
    texts = []
    for part in value[1:]:
        text = form_text(part)
        if text is None or (isinstance(part, tuple) and part[0] == word):
            return None
        texts.append(f"({text})" if word == "product" and isinstance(part, tuple) else text)
    if word == "product":
        return " ".join(texts)
    return " + ".join(texts) if texts == sorted(texts) else None
