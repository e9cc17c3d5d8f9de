"""Documents and roots for tests of events, controls and gestures."""

from viewloom.events.controls import Controls
from viewloom.events.hearing import can_prevent
from viewloom.server.reading import read_tree


def page(text, first=1):
    """Returns the document of a written text without awaits; ids count in the order of the text."""
    numbers = iter(range(first, 10000))
    return numbered(read_tree(text), numbers)


def numbered(nodes, numbers):
    found = []
    for node in nodes:
        number = next(numbers)
        if node[0] == "text":
            found.append(("text", number, node[1]))
        else:
            found.append(("element", number, node[1], tuple(sorted(node[2])), numbered(node[3], numbers)))
    return tuple(found)


def settled(document):
    """Returns new controls that are settled for a document."""
    controls = Controls()
    controls.settle(document)
    return controls


def shows(controls, numbers):
    return [controls.shown(number) for number in numbers]


class Stage:
    """A root that changes with the events that are sent to it.

    `changes` is a dict of the number of the event (from 1 on) with the document that it has behind this event, or with
    a function that is called with the root instead.
    """

    def __init__(self, document, changes=None, prevented=()):
        self.document = document
        self.controls = settled(document)
        self.changes = changes or {}
        self.prevented = prevented
        self.sent = []
        self.seen = []
        self.settles = 0

    def send_event(self, number, event, details):
        self.sent.append((number, event, details))
        self.seen.append(dict(self.controls.known))
        change = self.changes.get(len(self.sent))
        if callable(change):
            change(self)
        elif change is not None:
            self.document = change
        if change is not None:
            self.controls.settle(self.document)
        return event in self.prevented and can_prevent(event)

    @property
    def told(self):
        """What was sent in short: the id, the event and the sign that was entered, if there is one."""
        return " ".join(f"{number}:{event}" + details.get("key", "") for number, event, details in self.sent)
