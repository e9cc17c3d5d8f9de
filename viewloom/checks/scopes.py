"""Names that can be used at a place."""


class Scope:
    """The names that can be used at a place."""

    def __init__(self):
        # A dict keeps the order in which the names came.
        self.names = {}

    def __contains__(self, name):
        """Returns whether a name can be used."""
        return name in self.names

    def __iter__(self):
        return iter(self.names)

    def __len__(self):
        return len(self.names)

    def declare(self, name):
        """Adds a name, unless it is there or is declared nowhere; returns whether it was added."""
        if name in self.names or name == "event":
            return False
        self.names[name] = True
        return True

    def allow(self, name):
        """Adds a name if it is not there."""
        self.names[name] = True

    def inner(self):
        """Returns a new scope with the same names."""
        scope = Scope()
        scope.names = dict(self.names)
        return scope
