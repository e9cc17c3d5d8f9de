"""Why components were rendered."""

from viewloom.passes.instances import shown_instances, walk
from viewloom.passes.programs import component_named, has_resources
from viewloom.values.plain import same
from viewloom.views.kinds import same_descriptions


def reasons(component, stores, before, now):
    """Returns the list of the reasons of an instance of a component, of which there may have been none before."""
    if before is None:
        return ["new"]
    found = []
    for word, names in names_in(component, stores):
        found += [f"{word} {name}" for name in names if not is_as_before(name, before.env, now.env)]
    if not same_descriptions(before.slot, now.slot):
        found.append("slot")
    if has_resources(component):
        found.append("resources")
    return found


def names_in(component, stores):
    """Returns the list of pairs of a word and the list of the names of a component for which it stands."""
    return [
        ("store", stores),
        ("parameter", component["parameters"]),
        ("context", component["contexts"]),
        ("state", [name for name, _ in component["cells"]]),
    ]


def is_as_before(name, before, now):
    """Returns whether a name has the same value in two environments, or none in both."""
    if name in before and name in now:
        return same(before[name], now[name])
    return name not in before and name not in now


def why(program, before, now):
    """Returns the list of the ids, names and reasons of the components of a list of instances that have a reason."""
    stores = [name for name, _ in program["stores"]]
    there = {instance.number: instance for instance in walk(before) if instance.form == "component"}
    found = []
    for instance in shown_instances(now):
        component = component_named(program, instance.name) if instance.form == "component" else None
        if component is not None:
            old = there.get(instance.number)
            if old is not None and old.name != instance.name:
                old = None
            told = reasons(component, stores, old, instance)
            if told:
                found.append((instance.number, instance.name, told))
    return found
