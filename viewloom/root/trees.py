"""Written trees of what a root shows, and documents of written trees that were read."""


class Numbers:
    """Numbers that are given one after the other."""

    def __init__(self, first):
        self.following = first

    def take(self):
        """Returns the next number."""
        self.following += 1
        return self.following - 1


def written_tree(instances):
    """Returns the written tree of a list of instances."""
    return written_instances(instances, Numbers(1))


def written_instances(instances, numbers):
    """Returns the list of the written nodes of instances; awaits that wait take numbers."""
    nodes = []
    for instance in instances:
        if instance.form == "text":
            nodes.append(("text", instance.text))
        elif instance.form == "element":
            kids = written_instances(instance.kids, numbers)
            nodes.append(("element", instance.name, list(instance.attributes), kids))
        elif instance.form == "await":
            number = numbers.take() if instance.waits else None
            nodes.append(("await", number, written_instances(instance.shown_kids, numbers)))
        else:
            nodes += written_instances(instance.kids, numbers)
    return nodes


def written_document(document):
    """Returns the written tree of a document."""
    nodes = []
    for node in document:
        if node[0] == "text":
            nodes.append(("text", node[2]))
        else:
            nodes.append(("element", node[2], list(node[3]), written_document(node[4])))
    return nodes


def read_document(nodes, partners, now, first):
    """Returns the document of a written tree that was read, as a comparison has found it.

    Partners are pairs of paths; those nodes have the ids of their partners in the document now, and all others have
    new ones from a first id on.
    """
    there = ids_by_path(now, ())
    known = {path: there[other] for path, other in partners}
    return numbered(nodes, (), known, Numbers(first))


def ids_by_path(document, around):
    """Returns the dict of the paths of nodes with their ids; a path is around all of them."""
    found = {}
    for index, node in enumerate(document):
        path = (*around, index)
        found[path] = node[1]
        if node[0] == "element":
            found.update(ids_by_path(node[4], path))
    return found


def without_awaits(nodes):
    """Returns the list of the written nodes in which each await is replaced by what stands in it."""
    found = []
    for node in nodes:
        if node[0] == "await":
            found += without_awaits(node[2])
        else:
            found.append(node)
    return found


def numbered(nodes, around, known, numbers):
    """Returns the document of written nodes; a path is around all of them."""
    found = []
    for index, node in enumerate(without_awaits(nodes)):
        path = (*around, index)
        number = known[path] if path in known else numbers.take()
        if node[0] == "text":
            found.append(("text", number, node[1]))
        else:
            _, tag, attributes, kids = node
            found.append(("element", number, tag, tuple(sorted(attributes)), numbered(kids, path, known, numbers)))
    return tuple(found)
