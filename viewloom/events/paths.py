"""Paths of the nodes of a document, and what elements have."""

from viewloom.documents.nodes import find_node, walk


def nodes_on_path(document, number):
    """Returns the list of the elements on the path of the node with an id, from the inside to the outside."""
    around = []
    for level, node in walk(document):
        # What is left are the elements around the node.
        around = around[:level - 1] + [node]
        if node[1] == number:
            return [part for part in reversed(around) if part[0] == "element"]
    return []


def path_of(document, number):
    """Returns the path of the node with an id, a list of ids."""
    return [node[1] for node in nodes_on_path(document, number)]


def is_disabled(document, number):
    """Returns whether a node is not there, or it (for a text: its parent) is disabled."""
    if find_node(document, number) is None:
        return True
    return any([attribute_in(node, "disabled") is not None for node in nodes_on_path(document, number)])


def attribute_in(node, name):
    """Returns the text of an attribute of an element, or None."""
    attributes = dict(node[3])
    return attributes.get(name)


def attribute_of(document, number, name):
    """Returns the text of an attribute of the element with an id, or None."""
    node = find_node(document, number)
    if node is None or node[0] != "element":
        return None
    return attribute_in(node, name)
