"""Documents for tests: making them by chance, and changing them."""

import random

TAGS = ["p", "b", "main"]
NAMES = ["a", "b", "kind", "value"]
TEXTS = ["", "x", "y", "long text"]


class DocumentMaker:
    """Makes documents by chance, always the same ones for a number."""

    def __init__(self, seed):
        self.chance = random.Random(seed)

    def document(self, numbers, room=3):
        """Returns a document of some of these ids, each used once."""
        left = list(numbers)
        self.chance.shuffle(left)
        found = []
        while left and self.chance.random() < 0.85:
            found.append(self.node(left, room))
        return tuple(found)

    def attributes(self):
        names = sorted(self.chance.sample(NAMES, self.chance.randint(0, 3)))
        return tuple((name, self.chance.choice(TEXTS)) for name in names)

    def node(self, left, room):
        number = left.pop()
        if room == 0 or self.chance.random() < 0.4:
            return ("text", number, self.chance.choice(TEXTS))
        kids = []
        while left and self.chance.random() < 0.6:
            kids.append(self.node(left, room - 1))
        return ("element", number, self.chance.choice(TAGS), self.attributes(), tuple(kids))

    def changed(self, nodes, left):
        """Returns nodes like these: some removed, added, moved, or changed; `left` are ids that are free."""
        chance = self.chance
        found = []
        for node in nodes:
            if chance.random() < 0.15:
                continue
            if node[0] == "text" and chance.random() < 0.3:
                node = ("text", node[1], chance.choice(TEXTS))
            if node[0] == "element":
                tag = chance.choice(TAGS) if chance.random() < 0.15 else node[2]
                attributes = self.attributes() if chance.random() < 0.3 else node[3]
                node = ("element", node[1], tag, attributes, self.changed(node[4], left))
            elif chance.random() < 0.1:
                node = ("element", node[1], "p", (), ())
            found.append(node)
        if left and chance.random() < 0.5:
            found.insert(chance.randint(0, len(found)), ("text", left.pop(), "new"))
        if chance.random() < 0.4:
            chance.shuffle(found)
        return tuple(found)


def numbers_in(nodes):
    """Returns the ids of nodes, each before those of its kids."""
    found = []
    for node in nodes:
        found.append(node[1])
        if node[0] == "element":
            found.extend(numbers_in(node[4]))
    return found


def tower(levels, number=1, inner=()):
    """Returns a node with elements within each other, on as many levels; ids go on from a number."""
    node = ("element", number + levels - 1, "p", (), inner)
    for level in range(levels - 2, -1, -1):
        node = ("element", number + level, "p", (), (node,))
    return node
