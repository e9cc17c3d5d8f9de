"""Documents, and what stands in them."""

LOWEST_LEVEL = 40


def walk(document):
    """Yields the level and the node, a pair, for each node of a document, each node before its kids."""
    waiting = [(1, node) for node in reversed(document)]
    while waiting:
        level, node = waiting.pop()
        yield (level, node)
        waiting += [(level + 1, kid) for kid in reversed(kids_in(node))]


def kids_in(node):
    """Returns the tuple of the kids of a node."""
    if node[0] == "element":
        return node[4]
    return ()


def is_document(document):
    """Returns whether a tuple of nodes is a document."""
    earlier = {}
    for level, node in walk(document):
        if level > LOWEST_LEVEL or node[1] < 1 or node[1] in earlier:
            return False
        earlier[node[1]] = True
        if node[0] == "element" and not is_ascending([name for name, _ in node[3]]):
            return False
    return True


def is_ascending(names):
    """Returns whether each name of a list is greater than the one ahead of it."""
    for left, right in zip(names, names[1:]):
        if left >= right:
            return False
    return True


def ids_of(document):
    """Returns the list of the ids of all nodes, each node before its kids."""
    return [node[1] for _, node in walk(document)]


def find_node(document, number):
    """Returns the node with an id, or None."""
    for _, node in walk(document):
        if node[1] == number:
            return node
    return None


def kids_of(document, parent):
    """Returns the tuple of the nodes directly in a parent, or None if there is no such element."""
    if parent == 0:
        return document
    node = find_node(document, parent)
    if node is None or node[0] != "element":
        return None
    return node[4]


def level_of(document, number):
    """Returns the level of the node with an id, and 0 if it is not there."""
    for level, node in walk(document):
        if node[1] == number:
            return level
    return 0


def height_of(document):
    """Returns the number of levels of a document, which has a node."""
    return max([level for level, _ in walk(document)])
