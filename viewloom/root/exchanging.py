"""Puts another program in the place of the one of a root."""

from viewloom.errors import UnknownComponent
from viewloom.lanes.schedule import Schedule
from viewloom.passes.instances import walk
from viewloom.passes.passing import Pass
from viewloom.passes.programs import component_named
from viewloom.root.committing import clean_all
from viewloom.root.deeds import wake
from viewloom.root.working import Draft, finish
from viewloom.tools.replacing import kept_stores, pruned
from viewloom.values.plain import same


def exchange(root, program):
    """Gives a root another program, unless the pass for this waits or holds; returns whether it has it."""
    component = component_named(program, root.component)
    if component is None:
        raise UnknownComponent(root.component)
    parameters = {name: root.parameters[name] for name in root.parameters if name in component["parameters"]}
    seen = kept_stores(root.stores, program)
    lanes = lanes_to_do(root)
    tree = pruned(root.tree, root.program, program)
    made = Pass(program, lanes, stores=seen, answers=root.answers, next_id=root.next_id, anew=True)
    outcome = made.run(root.component, parameters, tree[0] if tree else None)
    if outcome[0] in ("waits", "holds"):
        return False
    if outcome[0] == "tree":
        forget_runs([outcome[1]])
    leave_program(root)
    root.program = program
    root.parameters = parameters
    root.stores = kept_stores(root.stores, program)
    is_changed = not all([same(root.stores[name], seen[name]) for name in seen])
    finish(root, Draft(lanes, made, outcome))
    if is_changed:
        wake(root, Schedule.SYNC)
    return True


def lanes_to_do(root):
    """Returns the list of the lane sync and all lanes that are pending or held."""
    lanes = [Schedule.SYNC, *root.held_lanes] + [lane for lane, _ in root.schedule.pending]
    return [lane for lane in range(len(Schedule.NAMES)) if lane in lanes]


def leave_program(root):
    """Ends what runs by the program that a root has, whose tree stays."""
    tree = root.tree
    clean_all(root)
    root.timers.clear()
    root.schedule.clear()
    forget_runs(tree)
    root.tree = tree


def forget_runs(instances):
    """Lets no effect have a run."""
    for instance in walk(instances):
        instance.runs = [None] * len(instance.runs)
