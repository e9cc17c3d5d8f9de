"""All errors of the package."""


class ViewError(ValueError):
    """An error of the package."""


class InvalidSource(ViewError):
    """A source has a fault at a line and a column."""

    def __init__(self, line, column, message):
        super().__init__(f"line {line}, column {column}: {message}")
        self.line = line
        self.column = column
        self.message = message


class InvalidProgram(ViewError):
    """A component of a program, or a store (of no component), breaks a rule."""

    def __init__(self, component, message):
        super().__init__(f"in {component!r}: {message}")
        self.component = component
        self.message = message


class Fault(ViewError):
    """An expression, a view or a block has a fault."""

    def __init__(self, message):
        super().__init__(message)
        self.message = message


class InvalidDocument(ViewError):
    """The text of a written tree is wrong at a line and a column."""

    def __init__(self, line, column):
        super().__init__(f"wrong at line {line}, column {column}")
        self.line = line
        self.column = column


class InvalidOperation(ViewError):
    """The operation with an index cannot be made in a document."""

    def __init__(self, index, message):
        super().__init__(f"operation {index}: {message}")
        self.index = index
        self.message = message


class InvalidRecording(ViewError):
    """The entry with an index is wrong in a recording."""

    def __init__(self, index):
        super().__init__(f"wrong entry {index}")
        self.index = index


class UnknownComponent(ViewError):
    """A program has no component of this name."""

    def __init__(self, name):
        super().__init__(f"unknown component {name}")
        self.name = name


class UnknownParameter(ViewError):
    """A component has no parameter of this name."""

    def __init__(self, name):
        super().__init__(f"unknown parameter {name}")
        self.name = name


class InvalidValue(ViewError):
    """A value is none of the language."""


class UnknownLane(ViewError):
    """A text is the name of no lane."""


class UnknownKey(ViewError):
    """A key was not asked for."""


class AnswerGiven(ViewError):
    """A key has an answer already."""


class InvalidCall(ViewError):
    """A text is none of a call."""


class MissingAnswer(ViewError):
    """An await that showed its kids waits now."""


class RenderingFailed(ViewError):
    """The first pass of a rendering fails with a message."""

    def __init__(self, message):
        super().__init__(message)
        self.message = message


class RenderingHeld(ViewError):
    """The first pass of a rendering waits or holds."""
