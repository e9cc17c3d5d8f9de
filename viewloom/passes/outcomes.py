"""How making a part of a tree ends if it is not made and does not fail; failures are faults."""

from viewloom.errors import ViewError


class Waits(ViewError):
    """A part of a tree waits for the answers for some keys."""

    def __init__(self, sought):
        super().__init__("waits")
        self.sought = sought


class Holds(ViewError):
    """A pass holds for the answers for some keys."""

    def __init__(self, sought):
        super().__init__("holds")
        self.sought = sought
