"""Instances, the trees that they form, and what is shown of these."""

from viewloom.values.copies import copied_names, copied_pairs
from viewloom.values.plain import copy_of
from viewloom.views.copies import copied_descriptions


class Instance:
    """A part of a tree; what another kind than its own has is None, empty, False or 0."""

    def __init__(self, form, number, key, *, name=None):
        self.form = form
        self.number = number
        self.key = key
        self.name = name
        self.kids = []
        # Texts and elements.
        self.text = None
        self.attributes = []
        self.acts = []
        # Components.
        self.parameters = {}
        self.slot = ()
        self.cells = []
        self.env = {}
        self.described = ()
        self.wanted = []
        self.runs = []
        # Provides, awaits and trys.
        self.provided = None
        self.waits = False
        self.fallback = []
        self.tries = None
        self.message = None
        self.failed_at = 0

    @property
    def all_kids(self):
        """The list of the members: the kids and, behind them, the fallback."""
        return self.kids + self.fallback

    @property
    def shown_kids(self):
        """The list of the members that are shown if this is shown."""
        if self.waits:
            return list(self.fallback)
        return list(self.kids)


def walk(instances):
    """Yields all instances, each before its members, in order."""
    waiting = list(reversed(instances))
    while waiting:
        instance = waiting.pop()
        yield instance
        waiting += list(reversed(instance.all_kids))


def shown_instances(instances):
    """Returns the list of the instances that are shown if these are, each before its members, in order."""
    shown = []
    for instance in instances:
        shown.append(instance)
        shown += shown_instances(instance.shown_kids)
    return shown


def find(instances, number):
    """Returns the instance with an id, or None."""
    for instance in walk(instances):
        if instance.number == number:
            return instance
    return None


def parent_of(instances, number):
    """Returns the instance that has the one with an id as a member, or None."""
    for instance in walk(instances):
        if number in [member.number for member in instance.all_kids]:
            return instance
    return None


def copied(instances):
    """Returns equal instances that share nothing with these."""
    return [copied_instance(instance) for instance in instances]


def copied_instance(instance):
    """Returns an equal instance."""
    other = Instance(instance.form, instance.number, instance.key, name=instance.name)
    other.kids = copied(instance.kids)
    other.text = instance.text
    other.attributes = list(instance.attributes)
    other.acts = list(copied_pairs(instance.acts))
    other.parameters = copied_names(instance.parameters)
    other.slot = copied_descriptions(instance.slot)
    other.cells = [cell.copied() for cell in instance.cells]
    copy_rendering(instance, other)
    other.runs = copied_runs(instance.runs)
    other.provided = copy_of(instance.provided)
    other.waits = instance.waits
    other.fallback = copied(instance.fallback)
    if instance.tries is not None:
        other.tries = instance.tries.copied()
    other.message = instance.message
    other.failed_at = instance.failed_at
    return other


def copy_rendering(instance, other):
    """Gives another instance of a component what the last rendering of one has made."""
    other.env = copied_names(instance.env)
    other.described = copied_descriptions(instance.described)
    other.wanted = copy_of(instance.wanted)


def copied_runs(runs):
    """Returns a list of copies of the runs of effects, each of which is None or a tuple."""
    return [None if run is None else copied_run(run) for run in runs]


def copied_run(run):
    """Returns a copy of the run of an effect."""
    number, values, environment = run
    return (number, copy_of(values), copied_names(environment))


def image(instances):
    """Returns the list of the nodes that are shown."""
    nodes = []
    for instance in instances:
        if instance.form == "text":
            nodes.append(("text", instance.number, instance.text))
        elif instance.form == "element":
            kids = tuple(image(instance.kids))
            nodes.append(("element", instance.number, instance.name, tuple(instance.attributes), kids))
        else:
            nodes += image(instance.shown_kids)
    return nodes
