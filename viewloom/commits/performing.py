"""Performs statements, and calls acts."""

from viewloom.errors import Fault
from viewloom.lanes.schedule import Schedule
from viewloom.passes.instances import find
from viewloom.passes.programs import component_named, handler_named
from viewloom.values.copies import copied_names, copied_source
from viewloom.values.evaluating import evaluate, value_of
from viewloom.values.needs import need_truth
from viewloom.values.plain import is_act, is_number

DEEPEST_CALL = 8
LONGEST_TIME = 1000000


class Performance:
    """What statements did: their deeds, their fault or None, and what is left of the budget."""

    def __init__(self, budget):
        self.deeds = []
        self.fault = None
        self.left = budget


class Scene:
    """For whom, in which environment and lane, and in how many handlers a block is performed."""

    def __init__(self, owner, environment, lane, calls):
        self.owner = owner
        self.environment = environment
        self.lane = lane
        self.calls = calls


def perform(program, tree, block, *, owner, environment, lane, event=None, budget=500):
    """Performs a block of an owner over a tree, a list of instances; returns a Performance."""
    performer = Performer(program, tree, event, budget)
    try:
        performer.perform_block(block, Scene(owner, environment, lane, 0))
    except Fault as error:
        performer.performance.fault = error.message
    return performer.performance


def perform_act(program, tree, act, arguments, *, lane, event=None, budget=500):
    """Calls an act with further arguments over a tree, a list of instances; returns a Performance."""
    performer = Performer(program, tree, event, budget)
    try:
        performer.call(act, arguments, lane, 0)
    except Fault as error:
        performer.performance.fault = error.message
    return performer.performance


class Performer:
    """Performs statements over a tree, with an event that handlers are told of."""

    def __init__(self, program, tree, event, budget):
        self.program = program
        self.tree = tree
        self.event = event
        self.performance = Performance(budget)

    def perform_block(self, block, scene):
        """Performs the statements of a block."""
        for statement in block:
            if self.performance.left <= 0:
                raise Fault("too many steps")
            self.performance.left -= 1
            action = ACTIONS[statement[0]]
            action(self, statement, scene)

    def has_cell(self, owner, name):
        """Returns whether an owner has a cell of a name."""
        instance = find(self.tree, owner)
        return instance is not None and name in [cell.name for cell in instance.cells]

    def has_store(self, name):
        """Returns whether the program has a store of a name."""
        return name in [store for store, _ in self.program["stores"]]

    def call(self, act, arguments, lane, calls):
        """Calls an act from within a number of handlers."""
        _, owner, name, given = act
        instance = find(self.tree, owner)
        if instance is None:
            return
        if instance.form == "try" and name == "retry":
            self.performance.deeds.append(("retry", owner, lane))
        elif instance.form == "component":
            self.call_handler(instance, name, given + arguments, lane, calls)

    def call_handler(self, instance, name, values, lane, calls):
        """Performs the handler of a name of a component, if it has one."""
        component = component_named(self.program, instance.name)
        handler = None if component is None else handler_named(component, name)
        if handler is None:
            return
        if calls >= DEEPEST_CALL:
            raise Fault("called too deep")
        environment = dict(instance.env)
        for index, parameter in enumerate(handler[1]):
            environment[parameter] = values[index] if index < len(values) else None
        environment["event"] = self.event
        self.perform_block(handler[2], Scene(instance.number, environment, lane, calls + 1))


def perform_set(performer, statement, scene):
    """Sends an update to a cell, or gives a store a value."""
    _, name, expression = statement
    if performer.has_cell(scene.owner, name):
        update = (scene.lane, copied_source(expression), copied_names(scene.environment))
        performer.performance.deeds.append(("send", scene.owner, name, *update))
    elif performer.has_store(name):
        performer.performance.deeds.append(("store", name, evaluate(expression, scene.environment, scene.owner)))


def perform_call(performer, statement, scene):
    """Calls the act that a path has."""
    _, path, given = statement
    act = value_of(path, scene.environment, scene.owner)
    arguments = [value_of(expression, scene.environment, scene.owner) for expression in given]
    if not is_act(act):
        raise Fault("not an action")
    performer.call(act, arguments, scene.lane, scene.calls)


def perform_log(performer, statement, scene):
    """Logs values."""
    values = [evaluate(expression, scene.environment, scene.owner) for expression in statement[1]]
    performer.performance.deeds.append(("log", values))


def perform_word(performer, statement, scene):
    """Notes a statement that is a word alone."""
    performer.performance.deeds.append((statement[0],))


def perform_if(performer, statement, scene):
    """Performs the one or the other block."""
    _, condition, block, other = statement
    if need_truth(value_of(condition, scene.environment, scene.owner)):
        performer.perform_block(block, scene)
    else:
        performer.perform_block(other, scene)


def perform_later(performer, statement, scene):
    """Performs a block in the lane transition."""
    later = Scene(scene.owner, scene.environment, Schedule.TRANSITION, scene.calls)
    performer.perform_block(statement[1], later)


def perform_timer(performer, statement, scene):
    """Notes a timer that is to be started."""
    word, expression, block = statement
    ticks = value_of(expression, scene.environment, scene.owner)
    least = 1 if word == "every" else 0
    if not is_number(ticks) or not least <= ticks <= LONGEST_TIME:
        raise Fault("not a time")
    planned = (scene.lane, copied_names(scene.environment), copied_source(block))
    performer.performance.deeds.append(("timer", scene.owner, ticks, word == "every", *planned))


ACTIONS = {
    "set": perform_set,
    "call": perform_call,
    "log": perform_log,
    "stop": perform_word,
    "prevent": perform_word,
    "if": perform_if,
    "later": perform_later,
    "after": perform_timer,
    "every": perform_timer,
}
