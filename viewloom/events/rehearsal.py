"""A root that only notes what is sent to it."""

from viewloom.events.controls import Controls
from viewloom.events.hearing import can_prevent
from viewloom.values.copies import copied_names


class Rehearsal:
    """A root whose document stays as it is; some events are prevented at it."""

    def __init__(self, document, *, prevented=()):
        self.document = document
        self.panel = Controls()
        self.panel.settle(document)
        self.sent = []
        self.prevented = list(prevented)

    @property
    def controls(self):
        """The controls, which gestures change."""
        return self.panel

    def send_event(self, number, event, details):
        """Notes an event; returns whether it was prevented."""
        self.sent.append((number, event, copied_names(details)))
        return event in self.prevented and can_prevent(event)
