"""What stays when another program takes the place of one."""

from viewloom.passes.instances import copied
from viewloom.passes.programs import component_named
from viewloom.values.plain import copy_of


def fits(before, now, name):
    """Returns whether the component of a name fits, where before and now are programs."""
    old = component_named(before, name)
    new = component_named(now, name)
    if old is None or new is None:
        return False
    return [cell for cell, _ in old["cells"]] == [cell for cell, _ in new["cells"]]


def pruned(tree, before, now):
    """Returns equal instances for a list of them, without the components that do not fit."""
    return without_misfits(copied(tree), before, now)


def without_misfits(instances, before, now):
    """Returns those of the instances that stay, and leaves out what does not fit in them."""
    staying = []
    for instance in instances:
        if instance.form != "component" or fits(before, now, instance.name):
            instance.kids = without_misfits(instance.kids, before, now)
            instance.fallback = without_misfits(instance.fallback, before, now)
            staying.append(instance)
    return staying


def kept_stores(stores, now):
    """Returns the dict of the stores of the program now, where stores are the present values by their names."""
    return {name: copy_of(stores[name] if name in stores else value) for name, value in now["stores"]}
