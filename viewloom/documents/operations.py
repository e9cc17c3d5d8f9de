"""Operations that change a document."""

from viewloom.documents.nodes import LOWEST_LEVEL, find_node, height_of, ids_of, kids_in, kids_of, level_of
from viewloom.errors import InvalidOperation


def fault_of(document, operation):
    """Returns the fault of an operation in a document, or None if it can be made."""
    action = FAULTS[operation[0]]
    return action(document, operation)


def apply_operation(document, operation):
    """Returns the document behind an operation."""
    return apply_all(document, [operation])


def apply_all(document, operations):
    """Returns the document behind a list of operations."""
    for index, operation in enumerate(operations):
        message = fault_of(document, operation)
        if message is not None:
            raise InvalidOperation(index, message)
        action = CHANGES[operation[0]]
        document = action(document, operation)
    return document


def place_among(nodes, number):
    """Returns the index of the node with an id among nodes, or None."""
    for index, node in enumerate(nodes):
        if node[1] == number:
            return index
    return None


def is_place(nodes, ahead):
    """Returns whether something can be put ahead of the node with an id among nodes, or behind all if it is None."""
    return ahead is None or place_among(nodes, ahead) is not None


def remove_fault(document, operation):
    """Returns the fault of a removal, or None."""
    _, parent, number = operation
    kids = kids_of(document, parent)
    if kids is None:
        return "no such element"
    if place_among(kids, number) is None:
        return "no such kid"
    return None


def insert_fault(document, operation):
    """Returns the fault of an insertion, or None."""
    _, parent, node, ahead = operation
    kids = kids_of(document, parent)
    if kids is None:
        return "no such element"
    used = {number: True for number in ids_of(document)}
    if any([number in used for number in ids_of((node,))]):
        return "id in use"
    if not is_place(kids, ahead):
        return "no such kid"
    # The document itself, which is no node, counts as level 0.
    if level_of(document, parent) + height_of((node,)) > LOWEST_LEVEL:
        return "nested too deep"
    return None


def move_fault(document, operation):
    """Returns the fault of a move, or None."""
    _, parent, number, ahead = operation
    kids = kids_of(document, parent)
    if kids is None:
        return "no such element"
    if place_among(kids, number) is None or ahead == number or not is_place(kids, ahead):
        return "no such kid"
    return None


def text_fault(document, operation):
    """Returns the fault of a change of a text, or None."""
    node = find_node(document, operation[1])
    if node is None or node[0] != "text":
        return "no such text"
    return None


def set_fault(document, operation):
    """Returns the fault of a change of an attribute, or None."""
    node = find_node(document, operation[1])
    if node is None or node[0] != "element":
        return "no such element"
    return None


def unset_fault(document, operation):
    """Returns the fault of a removal of an attribute, or None."""
    _, number, name = operation
    node = find_node(document, number)
    if node is None or node[0] != "element":
        return "no such element"
    if not any([other == name for other, _ in node[3]]):
        return "no such attribute"
    return None


def with_kids(document, parent, kids):
    """Returns the document with other kids in a parent."""
    if parent == 0:
        return kids
    _, number, tag, attributes, _ = find_node(document, parent)
    return with_node(document, ("element", number, tag, attributes, kids))


def with_node(nodes, node):
    """Returns nodes with a node in the place of the one that has its id, or None if they do not have it."""
    for index, old in enumerate(nodes):
        new = node if old[1] == node[1] else changed_within(old, node)
        if new is not None:
            return nodes[:index] + (new,) + nodes[index + 1:]
    return None


def changed_within(old, node):
    """Returns a node with another one in the place of the one in it that has its id, or None if it does not have it."""
    kids = with_node(kids_in(old), node)
    if kids is None:
        return None
    return old[:4] + (kids,)


def put_ahead(nodes, node, ahead):
    """Returns nodes with a further one ahead of the one with an id, or behind all if it is None."""
    index = len(nodes) if ahead is None else place_among(nodes, ahead)
    return nodes[:index] + (node,) + nodes[index:]


def removed(document, operation):
    """Returns the document behind a removal."""
    _, parent, number = operation
    kids = kids_of(document, parent)
    return with_kids(document, parent, tuple([kid for kid in kids if kid[1] != number]))


def inserted(document, operation):
    """Returns the document behind an insertion."""
    _, parent, node, ahead = operation
    return with_kids(document, parent, put_ahead(kids_of(document, parent), node, ahead))


def moved(document, operation):
    """Returns the document behind a move."""
    _, parent, number, ahead = operation
    kids = kids_of(document, parent)
    others = tuple([kid for kid in kids if kid[1] != number])
    return with_kids(document, parent, put_ahead(others, kids[place_among(kids, number)], ahead))


def with_text(document, operation):
    """Returns the document behind a change of a text."""
    _, number, text = operation
    return with_node(document, ("text", number, text))


def with_attributes(document, number, attributes):
    """Returns the document with other attributes, a dict, of an element."""
    _, _, tag, _, kids = find_node(document, number)
    return with_node(document, ("element", number, tag, tuple(sorted(attributes.items())), kids))


def with_set(document, operation):
    """Returns the document behind a change of an attribute."""
    _, number, name, text = operation
    attributes = dict(find_node(document, number)[3])
    attributes[name] = text
    return with_attributes(document, number, attributes)


def with_unset(document, operation):
    """Returns the document behind a removal of an attribute."""
    _, number, name = operation
    attributes = dict(find_node(document, number)[3])
    del attributes[name]
    return with_attributes(document, number, attributes)


FAULTS = {
    "remove": remove_fault,
    "insert": insert_fault,
    "move": move_fault,
    "text": text_fault,
    "set": set_fault,
    "unset": unset_fault,
}
CHANGES = {
    "remove": removed,
    "insert": inserted,
    "move": moved,
    "text": with_text,
    "set": with_set,
    "unset": with_unset,
}
