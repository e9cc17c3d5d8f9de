"""Describes nodes.

What describes a node takes it, its place, and the environment, owner and slot for which it is described; it returns
the descriptions that stand there, in their order.
"""

from viewloom.errors import Fault
from viewloom.values.copies import copied_names, copied_source
from viewloom.values.evaluating import evaluate, value_of
from viewloom.values.needs import need_list, need_truth
from viewloom.values.plain import is_act, is_number, is_text, text_of
from viewloom.views.copies import copied_descriptions
from viewloom.views.kinds import weight

GREATEST_WEIGHT = 200
LONGEST_KEY = 200


class Row:
    """The descriptions of a list so far, which are within the bounds."""

    def __init__(self):
        self.found = []
        self.total = 0

    def take(self, descriptions):
        """Adds descriptions, unless the list is beyond the bounds with them."""
        self.total += sum([weight(description) for description in descriptions])
        if self.total > GREATEST_WEIGHT:
            raise Fault("too large")
        for description in descriptions:
            if len(description[1]) > LONGEST_KEY:
                raise Fault("too large")
            self.found.append(description)


def describe(nodes, environment, owner, slot):
    """Returns the tuple of the descriptions of nodes for an environment, an owner and a slot."""
    return described(nodes, "", environment, owner, slot)


def described(nodes, beginning, environment, owner, slot):
    """Returns the tuple of the descriptions of the nodes of a list whose places have a beginning."""
    row = Row()
    for index, node in enumerate(nodes):
        action = ACTIONS[node[0]]
        row.take(action(node, f"{beginning}{index}", environment, owner, slot))
    return tuple(row.found)


def member_key(value):
    """Returns the key of a member of an `each` for the value that tells it from the others."""
    if is_number(value):
        return str(value)
    if is_text(value):
        return f"s{len(value)}:{value}"
    raise Fault("key must be a number or text")


def text_to_show(value):
    """Returns the text of a value, which must have one."""
    text = text_of(value)
    if text is None:
        raise Fault("not a text")
    return text


def attributes_of(pairs, environment, owner):
    """Returns the tuple of the attributes of an element."""
    found = []
    for name, given in pairs:
        value = value_of(given, environment, owner)
        if value is True:
            found.append((name, ""))
        elif value is not None and value is not False:
            found.append((name, text_to_show(value)))
    return tuple(sorted(found))


def acts_of(pairs, environment, owner):
    """Returns the tuple of the acts of an element."""
    found = []
    for event, given in pairs:
        value = evaluate(given, environment, owner)
        if value is not None:
            if not is_act(value):
                raise Fault("not an action")
            found.append((event, value))
    return tuple(found)


def describe_text(node, place, environment, owner, slot):
    """Describes a text that is written."""
    return [("text", place, node[1])]


def describe_show(node, place, environment, owner, slot):
    """Describes the text of a value."""
    return [("text", place, text_to_show(value_of(node[1], environment, owner)))]


def describe_element(node, place, environment, owner, slot):
    """Describes an element."""
    _, tag, attributes, acts, nodes = node
    attributes = attributes_of(attributes, environment, owner)
    acts = acts_of(acts, environment, owner)
    return [("element", place, tag, attributes, acts, describe(nodes, environment, owner, slot))]


def describe_use(node, place, environment, owner, slot):
    """Describes the use of a component."""
    _, name, pairs, nodes = node
    values = tuple([(parameter, evaluate(given, environment, owner)) for parameter, given in pairs])
    return [("use", place, name, values, describe(nodes, environment, owner, slot))]


def describe_slot(node, place, environment, owner, slot):
    """Describes what was handed in."""
    return [(form, f"{place}*/{key}", *parts) for form, key, *parts in copied_descriptions(slot)]


def describe_if(node, place, environment, owner, slot):
    """Describes the nodes that are chosen."""
    _, condition, nodes, other = node
    if need_truth(value_of(condition, environment, owner)):
        return described(nodes, f"{place}t/", environment, owner, slot)
    return described(other, f"{place}e/", environment, owner, slot)


def describe_each(node, place, environment, owner, slot):
    """Describes nodes for each member of a list."""
    _, name, counter, members, given, nodes = node
    row = Row()
    earlier = {}
    for index, member in enumerate(need_list(value_of(members, environment, owner))):
        inner = dict(environment)
        inner[name] = member
        if counter is not None:
            inner[counter] = index
        key = member_key(index if given is None else value_of(given, inner, owner))
        if key in earlier:
            raise Fault("duplicate key " + key)
        earlier[key] = True
        row.take(described(nodes, f"{place}[{key}]/", inner, owner, slot))
    return row.found


def describe_provide(node, place, environment, owner, slot):
    """Describes what provides a context."""
    _, name, given, nodes = node
    value = evaluate(given, environment, owner)
    return [("provide", place, name, value, describe(nodes, environment, owner, slot))]


def describe_await(node, place, environment, owner, slot):
    """Describes what shows its fallback while it waits."""
    kids = describe(node[1], environment, owner, slot)
    return [("await", place, kids, describe(node[2], environment, owner, slot))]


def describe_try(node, place, environment, owner, slot):
    """Describes what shows other nodes when it fails."""
    _, nodes, name, other = node
    kids = describe(nodes, environment, owner, slot)
    # What is described later is kept apart from the program, and from what else may be changed until then.
    kept = (copied_source(other), copied_names(environment), owner, copied_descriptions(slot))
    return [("try", place, kids, name, *kept)]


ACTIONS = {
    "text": describe_text,
    "show": describe_show,
    "element": describe_element,
    "use": describe_use,
    "slot": describe_slot,
    "if": describe_if,
    "each": describe_each,
    "provide": describe_provide,
    "await": describe_await,
    "try": describe_try,
}
