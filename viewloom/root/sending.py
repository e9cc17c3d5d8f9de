"""Sends events to the nodes of a root, and calls its handlers."""

from viewloom.commits.performing import perform_act
from viewloom.events.hearing import can_prevent, hearers, lane_of
from viewloom.events.paths import is_disabled, path_of
from viewloom.passes.instances import find, shown_instances
from viewloom.passes.programs import component_named, handler_named
from viewloom.root.deeds import add_line, do_deeds
from viewloom.root.working import settle


def send(root, number, event, details):
    """Sends an event to a node; returns whether it was heard, whether it was prevented, and the list of the faults."""
    if is_disabled(root.document, number):
        return (False, False, [])
    acts = {part.number: part.acts for part in shown_instances(root.tree) if part.form == "element"}
    called = hearers(acts, path_of(root.document, number), event)
    record = root.panel.record_of(root.document, number, event, details)
    prevented = False
    faults = []
    for act in called:
        done = perform_act(root.program, root.tree, act, [], lane=lane_of(event), event=record)
        do_deeds(root, done.deeds, 0)
        if done.fault is not None:
            faults.append(done.fault)
        if has_word(done.deeds, "prevent"):
            prevented = can_prevent(event)
        if has_word(done.deeds, "stop"):
            break
    return (len(called) > 0, prevented, faults)


def has_word(deeds, word):
    """Returns whether a word is among deeds."""
    return word in [deed[0] for deed in deeds]


def call_handler(root, number, name, arguments, lane):
    """Calls a handler; returns whether it is there, whether it prevented, and its fault or None."""
    if not has_handler(root, number, name):
        return (False, False, None)
    done = perform_act(root.program, root.tree, ("act", number, name, []), arguments, lane=lane)
    do_deeds(root, done.deeds, 0)
    return (True, has_word(done.deeds, "prevent"), done.fault)


def has_handler(root, number, name):
    """Returns whether an instance is a component with a handler of a name, or a try that can be tried again."""
    instance = find(root.tree, number)
    if instance is None or instance.form not in ("component", "try"):
        return False
    if instance.form == "try":
        return name == "retry"
    return handler_named(component_named(root.program, instance.name), name) is not None


class Stage:
    """A root as gestures see it."""

    def __init__(self, root):
        self.root = root
        self.document = root.document

    @property
    def controls(self):
        """The controls of the root, which gestures change."""
        return self.root.panel

    def send_event(self, number, event, details):
        """Sends an event and settles the root; returns whether the event was prevented."""
        _, prevented, faults = send(self.root, number, event, details)
        for fault in faults:
            add_line(self.root, [fault])
        settle(self.root)
        self.document = self.root.document
        return prevented
