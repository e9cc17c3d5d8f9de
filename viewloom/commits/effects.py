"""The order of effects, and what a commit does with them."""

from viewloom.passes.instances import copied_runs, walk
from viewloom.values.plain import same


def effect_order(instances):
    """Yields the components of a list of instances in the order of effects."""
    for instance in in_effect_order(instances):
        yield instance


def in_effect_order(instances):
    """Returns the list of the components, each behind the components among its members."""
    found = []
    for instance in instances:
        found += in_effect_order(instance.all_kids)
        if instance.form == "component":
            found.append(instance)
    return found


def plan(before, behind):
    """Returns the list of the steps of a commit from one list of instances to another one."""
    there = {instance.number: True for instance in walk(behind)}
    steps = []
    for instance in effect_order(before):
        if instance.number not in there:
            steps += cleans_of(instance, list(range(len(instance.runs))))
    for instance in effect_order(behind):
        steps += cleans_of(instance, changed_effects(instance))
    for instance in effect_order(behind):
        steps += [("run", instance.number, index) for index in changed_effects(instance)]
    return steps


def cleans_of(instance, indexes):
    """Returns the cleans of those effects of a component that have a run."""
    runs = copied_runs(instance.runs)
    return [("clean", instance.number, index, runs[index]) for index in indexes if runs[index] is not None]


def changed_effects(instance):
    """Returns the indexes of the effects of a component that have no run, or not for the values that are now."""
    found = []
    for index, (wanted, run) in enumerate(zip(instance.wanted, instance.runs)):
        if run is None or not same(wanted, run[1]):
            found.append(index)
    return found
