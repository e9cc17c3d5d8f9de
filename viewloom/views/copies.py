"""Copies of descriptions, which share no list and no dict with them except the nodes of a try."""

from viewloom.values.plain import copied


def copied_names(environment):
    """Returns an environment that is the same and shares no list and no dict with it."""
    return {name: copied(environment[name]) for name in environment}


def copied_pairs(pairs):
    """Returns a tuple of pairs of the same names and copies of their values."""
    return tuple([(name, copied(value)) for name, value in pairs])


def copied_descriptions(descriptions):
    """Returns a tuple of copies of descriptions."""
    return tuple([copied_description(description) for description in descriptions])


def copied_description(description):
    """Returns a copy of a description."""
    form = description[0]
    if form == "text":
        return description
    if form == "element":
        _, key, tag, attributes, acts, kids = description
        return (form, key, tag, attributes, copied_pairs(acts), copied_descriptions(kids))
    if form == "use":
        _, key, name, values, kids = description
        return (form, key, name, copied_pairs(values), copied_descriptions(kids))
    if form == "provide":
        _, key, name, value, kids = description
        return (form, key, name, copied(value), copied_descriptions(kids))
    if form == "await":
        _, key, kids, fallback = description
        return (form, key, copied_descriptions(kids), copied_descriptions(fallback))
    _, key, kids, name, nodes, environment, owner, slot = description
    kids = copied_descriptions(kids)
    return (form, key, kids, name, nodes, copied_names(environment), owner, copied_descriptions(slot))
