"""Gestures, which send events to nodes as somebody does who clicks, writes or chooses.

A root has a document, controls, and a method `send_event` that tells whether the event was prevented. What a root
shows can change with each event, so that all is looked up again behind each of them.
"""

from viewloom.documents.nodes import find_node
from viewloom.events.controls import is_option, kind_of_control, open_values, value_of_option
from viewloom.events.paths import attribute_in, is_disabled, nodes_on_path

MOST_SIGNS = 2000


def kind_at(root, number):
    """Returns the kind of the control with an id that is not disabled, or None."""
    if is_disabled(root.document, number):
        return None
    return kind_of_control(find_node(root.document, number))


def send(root, number, event, details):
    """Sends an event to a node, unless it is not there or disabled; returns whether it was prevented."""
    if is_disabled(root.document, number):
        return False
    return root.send_event(number, event, dict(details))


def settle(root):
    """Settles the controls."""
    root.controls.settle(root.document)


def click(root, number):
    """Clicks at a node."""
    if is_disabled(root.document, number):
        return
    active = active_part(root, number)
    if active is None:
        send(root, number, "click", {})
    elif is_option(active):
        if not send(root, number, "click", {}):
            choose_option(root, active[1])
    else:
        click_box(root, number, active[1])
    settle(root)


def active_part(root, number):
    """Returns the first element of the path of a node that is a box or an option, or None."""
    for node in nodes_on_path(root.document, number):
        if is_option(node) or kind_of_control(node) == "box":
            return node
    return None


def click_box(root, number, box):
    """Turns a box, and sends a click to a node in it, and what follows."""
    before = root.controls.shown(box)
    root.controls.show(box, not before)
    if not send(root, number, "click", {}):
        send(root, box, "input", {})
        send(root, box, "change", {})
    elif is_box(root, box):
        root.controls.show(box, before)


def is_box(root, number):
    """Returns whether the node with an id is a box, which may be disabled."""
    node = find_node(root.document, number)
    return node is not None and kind_of_control(node) == "box"


def choose_option(root, number):
    """Sets the nearest select around an option to its value, if it is still there and not disabled."""
    if is_disabled(root.document, number):
        return
    option = find_node(root.document, number)
    selects = [node for node in nodes_on_path(root.document, number) if kind_of_control(node) == "select"]
    if is_option(option) and selects:
        set_to(root, selects[0][1], "select", value_of_option(option))


def set_to(root, number, kind, text):
    """Sets a select or a field, which is there and not disabled, to a text."""
    if root.controls.shown(number) != text:
        root.controls.show(number, text)
        send(root, number, "input", {})
        if kind == "select":
            send(root, number, "change", {})
    settle(root)


def is_open_field(root, number):
    """Returns whether the node with an id is a field that is not disabled and not locked."""
    return kind_at(root, number) == "field" and attribute_in(find_node(root.document, number), "locked") is None


def enter(root, number, text):
    """Enters a text at a field, sign by sign."""
    before = root.controls.shown(number)
    for sign in text:
        if kind_at(root, number) == "field":
            enter_sign(root, number, sign)
    send_change(root, number, before)


def enter_sign(root, number, sign):
    """Enters a sign at a field."""
    prevented = send(root, number, "keydown", {"key": sign})
    if not prevented and is_open_field(root, number):
        shown = root.controls.shown(number)
        if len(shown) < MOST_SIGNS:
            set_to(root, number, "field", shown + sign)
    send(root, number, "keyup", {"key": sign})


def send_change(root, number, before):
    """Sends a change to a field that shows another text than before."""
    if kind_at(root, number) == "field" and root.controls.shown(number) != before:
        send(root, number, "change", {})


def clear(root, number):
    """Clears a field."""
    before = root.controls.shown(number)
    if is_open_field(root, number):
        set_to(root, number, "field", "")
        send_change(root, number, before)


def choose(root, number, value):
    """Chooses a value at a select."""
    if kind_at(root, number) == "select" and value in open_values(root.document, find_node(root.document, number)):
        set_to(root, number, "select", value)
