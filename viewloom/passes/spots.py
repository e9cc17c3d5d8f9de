"""Places in a tree that is made."""


class Spot:
    """A level of a tree, and the contexts that are provided there: a dict of their names with values."""

    def __init__(self, level, contexts):
        self.level = level
        self.contexts = contexts

    def below(self):
        """Returns the spot of the kids of what stands here."""
        return Spot(self.level + 1, self.contexts)

    def providing(self, name, value):
        """Returns the spot of the kids of what stands here and provides a context."""
        return Spot(self.level + 1, {**self.contexts, name: value})
