"""The patch from one document to another one."""

from viewloom.documents.nodes import ids_of, kids_in
from viewloom.documents.rising import best_row


def are_alike(old, new):
    """Returns whether two nodes are both texts, or elements with the same tag."""
    return old[0] == new[0] and (old[0] == "text" or old[2] == new[2])


def partners_of(old, new):
    """Returns the dict of the ids of the kept nodes among new kids with their old partners, in the order of new."""
    there = {node[1]: node for node in old}
    return {node[1]: there[node[1]] for node in new if node[1] in there and are_alike(there[node[1]], node)}


def kept_ids(old, new):
    """Returns the list of the ids of the kept nodes, in the order of the new document."""
    kept = []
    partners = partners_of(old, new)
    for node in new:
        if node[1] in partners:
            kept.append(node[1])
            kept += kept_ids(kids_in(partners[node[1]]), kids_in(node))
    return kept


def patch(old, new):
    """Returns the list of the operations of the patch from the old to the new document."""
    return removals(0, old, new) + changes(0, old, new)


def removals(parent, old, new):
    """Returns the removes of what is not kept of the old kids of a kept parent, and of the kids of these."""
    partners = partners_of(old, new)
    after = {node[1]: node for node in new}
    found = []
    for node in old:
        if node[1] in partners:
            found += removals(node[1], kids_in(node), kids_in(after[node[1]]))
        else:
            found.append(("remove", parent, node[1]))
    return found


def changes(parent, old, new):
    """Returns the changes in a kept parent whose old and new kids are given."""
    partners = partners_of(old, new)
    after = {node[1]: node for node in new}
    found = []
    for node in old:
        if node[1] in partners:
            found += own_changes(node, after[node[1]])
            found += changes(node[1], kids_in(node), kids_in(after[node[1]]))
    return found + placings(parent, [node[1] for node in old if node[1] in partners], new)


def own_changes(old, new):
    """Returns the own changes of a kept node."""
    if old[0] == "text":
        return [] if old[2] == new[2] else [("text", new[1], new[2])]
    before = dict(old[3])
    after = dict(new[3])
    unsets = [("unset", new[1], name) for name in before if name not in after]
    return unsets + [("set", new[1], name, after[name]) for name in after if before.get(name) != after[name]]


def placings(parent, kept, new):
    """Returns the placings of the kids of a parent, whose kept kids are told by their ids in the old order."""
    numbers = {number: index for index, number in enumerate(kept)}
    row = best_row([numbers[node[1]] for node in new if node[1] in numbers])
    staying = {kept[index]: True for index in row}
    found = []
    ahead = None
    for node in reversed(new):
        if node[1] not in numbers:
            found.append(("insert", parent, node, ahead))
        elif node[1] not in staying:
            found.append(("move", parent, node[1], ahead))
        ahead = node[1]
    return found


def is_careful(old, new, operations):
    """Returns whether a list of operations is careful for two documents."""
    kept = {number: True for number in kept_ids(old, new)}
    for operation in operations:
        if operation[0] == "remove" and operation[2] in kept:
            return False
        if operation[0] == "insert" and any([number in kept for number in ids_of((operation[2],))]):
            return False
    return True
