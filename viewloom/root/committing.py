"""Commits trees to a root, and ends what it shows."""

from viewloom.commits.effects import plan
from viewloom.commits.performing import perform
from viewloom.documents.patches import patch
from viewloom.lanes.schedule import Schedule
from viewloom.passes.instances import copied_run, find, image, parent_of, shown_instances, walk
from viewloom.passes.programs import component_named
from viewloom.root.deeds import do_deeds, tell_try, wake

# What a clean leaves behind if there is no tree any more.
LASTING = ("store", "log")


def commit(root, lanes, instance):
    """Commits a tree that a pass with some lanes has made."""
    before = root.tree
    root.schedule.end(lanes)
    wake_held(root)
    root.tree = [instance]
    wake_open_lanes(root)
    show(root)
    root.before = before
    root.error = None
    message = perform_steps(root, before)
    there = {one.number: True for one in walk(root.tree)}
    root.timers.end_owners([one.number for one in walk(before) if one.number not in there])
    root.commits += 1
    if message is not None:
        end_tree(root, message)


def end_tree(root, message):
    """Lets a root show nothing any more, since it fails with a message or, if this is None, is unmounted."""
    before = root.tree
    clean_all(root)
    root.schedule.clear()
    root.held_lanes = []
    root.held_keys = []
    root.timers.clear()
    show(root)
    root.before = before
    root.error = message
    root.commits += 1


def wake_held(root):
    """Wakes the lanes that are held, and holds nothing any more."""
    for lane in root.held_lanes:
        wake(root, lane)
    root.held_lanes = []
    root.held_keys = []


def wake_open_lanes(root):
    """Wakes each lane of an update that waits in a cell of an instance that is shown."""
    for instance in shown_instances(root.tree):
        cells = list(instance.cells)
        if instance.tries is not None:
            cells.append(instance.tries)
        for cell in cells:
            for lane in cell.open_lanes:
                wake(root, lane)


def show(root):
    """Gives a root the document of its tree."""
    document = tuple(image(root.tree))
    root.operations = patch(root.document, document)
    root.document = document
    root.panel.settle(document)


def perform_steps(root, before):
    """Performs the plan from the tree before to that of a root; returns the first message with which this fails."""
    names = names_of(before)
    failure = None
    for step in plan(before, root.tree):
        if step[0] == "clean":
            # What has a run was in the tree before.
            do_deeds(root, cleaned(root, step, names[step[1]]), 0)
        else:
            message = run_effect(root, step)
            if failure is None:
                failure = message
    return failure


def names_of(instances):
    """Returns the dict of the ids of instances with their names."""
    return {instance.number: instance.name for instance in walk(instances)}


def block_of(root, name, index, part):
    """Returns a block of an effect of a component, which is empty if it has no such effect."""
    effects = component_named(root.program, name)["effects"]
    if index >= len(effects):
        return []
    return effects[index][part]


def cleaned(root, step, name):
    """Ends the timers of a run, and returns the deeds of its cleanup; a fault of this is one more line of the log."""
    _, owner, index, (number, _, environment) = step
    root.timers.end_run(number)
    block = block_of(root, name, index, 2)
    done = perform(root.program, root.tree, block, owner=owner, environment=environment, lane=Schedule.USUAL)
    if done.fault is None:
        return done.deeds
    return done.deeds + [("log", [done.fault])]


def run_effect(root, step):
    """Runs an effect; returns the message with which the root fails for it, or None."""
    _, owner, index = step
    instance = find(root.tree, owner)
    root.last_run += 1
    run = (root.last_run, instance.wanted[index], instance.env)
    instance.runs[index] = copied_run(run)
    block = block_of(root, instance.name, index, 1)
    done = perform(root.program, root.tree, block, owner=owner, environment=instance.env, lane=Schedule.USUAL)
    do_deeds(root, done.deeds, root.last_run)
    if done.fault is None:
        return None
    catching = nearest_try(root.tree, owner)
    if catching is None:
        return done.fault
    tell_try(root, catching, done.fault)
    return None


def nearest_try(instances, number):
    """Returns the nearest try around an instance that is not failed, or None."""
    around = parent_of(instances, number)
    while around is not None and (around.form != "try" or around.message is not None):
        around = parent_of(instances, around.number)
    return around


def clean_all(root):
    """Cleans up all effects that have a run, over no tree; only what they do to stores and the log is done."""
    before = root.tree
    root.tree = []
    names = names_of(before)
    for step in plan(before, []):
        deeds = cleaned(root, step, names[step[1]])
        do_deeds(root, [deed for deed in deeds if deed[0] in LASTING], 0)
