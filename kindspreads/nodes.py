"""Nodes: terms that know their texts and kinds, and how they are put together flat.

Terms are looked up by their texts: they nest too deep to be keys themselves.
"""

from kindspreads.kinds import put_together
from kindspreads.plain import is_word


class Node:
    """A thing, a sum or a product, its parts being nodes too."""

    def __init__(self, word, parts, text, kind):
        self.word = word
        self.parts = parts
        self.text = text
        self.kind = kind


class Ground:
    """What nodes are made by: the tables and the triples of a rule, and the kinds of things."""

    def __init__(self, rule, sorts):
        self.sums = rule.kinds().plus()
        self.products = rule.kinds().times()
        self.triples = {
            "left": {triple: True for triple in rule.left()},
            "right": {triple: True for triple in rule.right()},
        }
        self.sorts = sorts


def thing_node(ground, thing):
    """The node of a thing."""
    return Node("thing", [], thing, ground.sorts[thing])


def flat_sum(ground, nodes):
    """The sum of nodes, the summands of sums standing by themselves; one alone is itself."""
    parts = _parts_apart("sum", nodes)
    if len(parts) == 1:
        return parts[0]
    parts = sorted(parts, key=lambda part: part.text)
    text = " + ".join([part.text for part in parts])
    return Node("sum", parts, text, put_together(ground.sums, [part.kind for part in parts]))


def flat_product(ground, nodes):
    """The product of nodes, the factors of products standing by themselves; one alone is itself."""
    parts = _parts_apart("product", nodes)
    if len(parts) == 1:
        return parts[0]
    text = " ".join([f"({part.text})" if part.word == "sum" else part.text for part in parts])
    return Node("product", parts, text, put_together(ground.products, [part.kind for part in parts]))


def flat(ground, word, nodes):
    """The sum or the product of nodes, by its word."""
    if word == "sum":
        return flat_sum(ground, nodes)
    return flat_product(ground, nodes)


def _parts_apart(word, nodes):
    parts = []
    for node in nodes:
        if node.word == word:
            parts.extend(node.parts)
        else:
            parts.append(node)
    return parts


def with_part(ground, node, at, part):
    """A node with another part in the place of one, put together flat."""
    return flat(ground, node.word, node.parts[:at] + [part] + node.parts[at + 1:])


def node_of(ground, term):
    """The node of a term whose things have kinds in the ground."""
    if isinstance(term, str):
        return thing_node(ground, term)
    return flat(ground, term[0], [node_of(ground, part) for part in term[1:]])


def plain_term(node):
    """The term of a node."""
    if node.word == "thing":
        return node.text
    return (node.word, *[plain_term(part) for part in node.parts])


def by_text(nodes):
    """The terms of the unlike ones of some nodes, ascending by their texts."""
    found = {node.text: node for node in nodes}
    return [plain_term(found[text]) for text in sorted(found)]


def inner_nodes(node):
    """A node, its parts, theirs, and so on: a dictionary from their texts."""
    found = {node.text: node}
    for part in node.parts:
        found.update(inner_nodes(part))
    return found


def form_text(value):
    """The text of a term by its form, None of any other object."""
    if is_word(value):
        return value
    if not isinstance(value, tuple) or len(value) < 3:
        return None
    texts = []
    for part in value[1:]:
        text = form_text(part)
        if text is None or not _may_stand_in(value[0], part):
            return None
        texts.append(f"({text})" if value[0] == "product" and not is_word(part) else text)
    if value[0] == "product":
        return " ".join(texts)
    return " + ".join(texts) if texts == sorted(texts) else None


def _may_stand_in(word, part):
    """Whether a term is flat as a part of a sum or a product."""
    if word == "sum":
        return is_word(part) or part[0] == "product"
    return word == "product" and (is_word(part) or part[0] == "sum")


def things_within(term):
    """The things of a term by its form, each as often as it stands."""
    if isinstance(term, str):
        return [term]
    return [thing for part in term[1:] for thing in things_within(part)]
