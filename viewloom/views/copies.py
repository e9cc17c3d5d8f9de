"""Copies of descriptions, which share no list and no dict with them."""

from viewloom.values.copies import copied_names, copied_pairs, copied_source
from viewloom.values.plain import copied


def copied_descriptions(descriptions):
    """Returns a tuple of copies of descriptions."""
    return tuple([copied_description(description) for description in descriptions])


def copied_description(description):
    """Returns a copy of a description."""
    form = description[0]
    if form == "text":
        return description
    if form == "element":
        _, key, tag, attributes, acts, kids = description
        return (form, key, tag, attributes, copied_pairs(acts), copied_descriptions(kids))
    if form == "use":
        _, key, name, values, kids = description
        return (form, key, name, copied_pairs(values), copied_descriptions(kids))
    if form == "provide":
        _, key, name, value, kids = description
        return (form, key, name, copied(value), copied_descriptions(kids))
    if form == "await":
        _, key, kids, fallback = description
        return (form, key, copied_descriptions(kids), copied_descriptions(fallback))
    _, key, kids, name, nodes, environment, owner, slot = description
    kids = copied_descriptions(kids)
    slot = copied_descriptions(slot)
    return (form, key, kids, name, copied_source(nodes), copied_names(environment), owner, slot)
