"""Does deeds at a root."""

from viewloom.lanes.schedule import Schedule
from viewloom.passes.instances import find
from viewloom.values.plain import copy_of, same
from viewloom.words.reading import parse_expression

MOST_LINES = 200
ONE_TRY_MORE = "[tries[0] + 1, null]"
FAILURE_OF_TRY = "failures[tries[0] - least]"


def do_deeds(root, deeds, run):
    """Does deeds in order; the timers that they start belong to a run, or to none if this is 0."""
    for deed in deeds:
        action = ACTIONS[deed[0]]
        action(root, deed, run)


def wake(root, lane):
    """Wakes a lane."""
    root.schedule.wake(lane, now=root.clock)


def cell_of(root, owner, name):
    """Returns the cell of a name of a component, or None."""
    instance = find(root.tree, owner)
    if instance is None or instance.form != "component":
        return None
    for cell in instance.cells:
        if cell.name == name:
            return cell
    return None


def do_send(root, deed, run):
    """Sends an update to a cell."""
    _, owner, name, lane, expression, environment = deed
    cell = cell_of(root, owner, name)
    if cell is not None:
        cell.send(lane, expression, environment)
        wake(root, lane)


def put_value(root, owner, name, value, lane):
    """Sends an update that gives a value to a cell; returns whether there is such a cell."""
    # In an update the name of the cell stands for its present value, so that the given one needs another name.
    given = name + "1"
    do_send(root, ("send", owner, name, lane, ("name", given), {given: value}), 0)
    return cell_of(root, owner, name) is not None


def do_store(root, deed, run):
    """Gives a store a value."""
    _, name, value = deed
    put_store(root, name, value)


def put_store(root, name, value):
    """Gives a store a value; returns whether it is there and had another one."""
    if name not in root.stores or same(root.stores[name], value):
        return False
    root.stores[name] = copy_of(value)
    wake(root, Schedule.SYNC)
    root.schedule.give_up()
    return True


def do_retry(root, deed, run):
    """Lets a try be tried again."""
    _, owner, lane = deed
    instance = find(root.tree, owner)
    if instance is not None and instance.form == "try":
        instance.tries.send(lane, parse_expression(ONE_TRY_MORE), {})
        wake(root, lane)


def tell_try(root, instance, message):
    """Lets a try fail with a message."""
    # No expression can make a list of a long text, so that this one takes a list that is given. There is one for each
    # number that the cell may have by then, since each update ahead of it can increase the number by one.
    least = instance.tries.base[0]
    failures = [[least + more, message] for more in range(len(instance.tries.queue) + 1)]
    instance.tries.send(Schedule.SYNC, parse_expression(FAILURE_OF_TRY), {"least": least, "failures": failures})
    wake(root, Schedule.SYNC)


def do_log(root, deed, run):
    """Puts a list of values into the log."""
    add_line(root, deed[1])


def add_line(root, values):
    """Puts a list of values into the log, unless this is full."""
    if len(root.log) < MOST_LINES:
        root.log.append(values)


def do_timer(root, deed, run):
    """Starts a timer."""
    _, owner, ticks, again, lane, environment, block = deed
    root.timers.start(
        owner, now=root.clock, ticks=ticks, again=again, lane=lane, environment=environment, block=block, run=run
    )


def do_nothing(root, deed, run):
    """Leaves a deed to the one who sent an event."""


ACTIONS = {
    "send": do_send,
    "store": do_store,
    "retry": do_retry,
    "log": do_log,
    "timer": do_timer,
    "stop": do_nothing,
    "prevent": do_nothing,
}
