"""Controls, and what they show."""

from viewloom.documents.nodes import find_node, walk
from viewloom.events.paths import attribute_in, attribute_of, is_disabled, nodes_on_path
from viewloom.values.plain import copy_of

CONTROLS = ("input", "area", "select")


def kind_of_control(node):
    """Returns "box", "select" or "field", or None for what is no control."""
    if node[0] != "element" or node[2] not in CONTROLS:
        return None
    if node[2] == "select":
        return "select"
    if node[2] == "input" and attribute_in(node, "kind") == "box":
        return "box"
    return "field"


def open_values(document, select):
    """Returns the list of the values of those options of a select, a node, that are not disabled."""
    options = [node for _, node in walk(select[4]) if is_option(node)]
    return [value_of_option(node) for node in options if not is_disabled(document, node[1])]


def is_option(node):
    """Returns whether a node is an element `option`."""
    return node[0] == "element" and node[2] == "option"


def value_of_option(node):
    """Returns the value of an option."""
    value = attribute_in(node, "value")
    return "" if value is None else value


def bound_text(node, kind):
    """Returns the text of the attribute to which a control is bound, or None."""
    return attribute_in(node, "checked" if kind == "box" else "value")


def shown_for(text, kind):
    """Returns what a control shows for the text of an attribute, which may be None."""
    if kind == "box":
        return text == "true"
    return "" if text is None else text


class Controls:
    """The controls that are known, and what each of them shows."""

    def __init__(self):
        # A dict of ids with pairs of the kind of the control and what it shows.
        self.known = {}

    def __len__(self):
        """Returns how many controls are known."""
        return len(self.known)

    def __contains__(self, number):
        """Returns whether a control is known."""
        return number in self.known

    def settle(self, document):
        """Forgets what is not there any more, and lets each control show what it has to show in a document."""
        before = self.known
        self.known = {}
        for _, node in walk(document):
            kind = kind_of_control(node)
            if kind is not None:
                self.known[node[1]] = (kind, self.settled(node, kind, before.get(node[1])))
        for number in list(self.known):
            if self.known[number][0] == "select":
                self.settle_select(document, find_node(document, number))

    def settled(self, node, kind, before):
        """Returns what a control shows, of which the kind and what it showed before are told, or None."""
        text = bound_text(node, kind)
        if text is None:
            if before is not None and before[0] == kind:
                return before[1]
            text = attribute_in(node, "default")
        return shown_for(text, kind)

    def settle_select(self, document, node):
        """Lets a select that is not bound show the value of an option that is not disabled."""
        if bound_text(node, "select") is not None:
            return
        choices = open_values(document, node)
        if self.shown(node[1]) not in choices:
            self.show(node[1], choices[0] if choices else "")

    def shown(self, number):
        """Returns what a control shows, or None."""
        if number not in self.known:
            return None
        return self.known[number][1]

    def show(self, number, value):
        """Lets a control that is known show a value."""
        if number in self.known:
            self.known[number] = (self.known[number][0], value)

    def record_of(self, document, number, event, details):
        """Returns the record of an event, whose target is a node of a document."""
        record = {"event": event, "name": None, "value": None, "checked": None}
        on_path = nodes_on_path(document, number)
        if on_path:
            # The first one is the target or, for a text, its parent.
            record["name"] = attribute_of(document, on_path[0][1], "name")
        if self.is_settled(find_node(document, number)):
            kind, shown = self.known[number]
            record["checked" if kind == "box" else "value"] = shown
        own = list(record)
        for name in details:
            if name not in own:
                record[name] = copy_of(details[name])
        return record

    def is_settled(self, node):
        """Returns whether a node, which may be None, is a control that is known as what it is."""
        return node is not None and node[1] in self.known and self.known[node[1]][0] == kind_of_control(node)

    def fork(self):
        """Returns equal controls of their own."""
        other = Controls()
        other.known = dict(self.known)
        return other
