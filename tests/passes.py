"""Passes for tests: making them, and telling trees in short."""

from viewloom.passes.instances import walk
from viewloom.passes.passing import Pass
from viewloom.words.reading import parse_program


def program(source):
    return parse_program(source)


def stores_of(parsed):
    return dict(parsed["stores"])


class Show:
    """A program that is shown by one pass after the other."""

    def __init__(self, source, values=None, component="Main"):
        self.program = parse_program(source)
        self.stores = stores_of(self.program)
        self.values = values or {}
        self.component = component
        self.answers = []
        self.tree = None
        self.next_id = 1
        self.made = None

    def make(self, lanes=(1,), anew=False):
        """Makes a pass over the tree, which stays as it is; returns what it returns."""
        self.made = Pass(self.program, list(lanes), stores=self.stores, answers=self.answers, next_id=self.next_id,
                         anew=anew)
        return self.made.run(self.component, self.values, self.tree)

    def go(self, lanes=(1,), anew=False):
        """Makes a pass, and keeps its tree if there is one; returns the tree in short, or what it returns otherwise."""
        outcome = self.make(lanes, anew)
        if outcome[0] != "tree":
            return outcome
        self.tree = outcome[1]
        self.next_id = self.made.next_id
        return short([self.tree])

    def by_number(self):
        return {instance.number: instance for instance in walk([self.tree])}

    def find(self, number):
        return self.by_number()[number]

    def named(self, name):
        """The first instance of a name."""
        return [instance for instance in walk([self.tree]) if instance.name == name][0]

    def send(self, name, cell, expression, lane=1, environment=None):
        """Sends an update to a cell of the first component of a name."""
        cells = [one for one in self.named(name).cells if one.name == cell]
        return cells[0].send(lane, expression, environment or {})

    def send_tries(self, number, value, lane=1):
        return self.find(number).tries.send(lane, ("name", "v"), {"v": value})

    @property
    def rendered(self):
        return self.made.rendered


def short(instances):
    """Tells a tree in short."""
    return " ".join(short_one(instance) for instance in instances)


def short_one(instance):
    kids = f"[{short(instance.kids)}]" if instance.kids else ""
    if instance.form == "text":
        return f"{instance.number}'{instance.text}'"
    if instance.form == "provide":
        return f"{instance.number}={instance.name}{kids}"
    if instance.form == "await":
        return f"{instance.number}await{kids}" + (f"..[{short(instance.fallback)}]" if instance.waits else "")
    if instance.form == "try":
        return f"{instance.number}try" + ("" if instance.message is None else f"({instance.message})") + kids
    return f"{instance.number}{instance.name}{kids}"


def fields(instance):
    """All that an instance has, except its members."""
    return {name: value for name, value in vars(instance).items() if name not in ("kids", "fallback")}


def told(instances):
    """All that a tree has, to be compared with another one."""
    found = []
    for instance in walk(instances):
        row = fields(instance)
        row["cells"] = [vars(cell) for cell in instance.cells]
        row["tries"] = None if instance.tries is None else vars(instance.tries)
        row["members"] = ([kid.number for kid in instance.kids], [kid.number for kid in instance.fallback])
        found.append(repr(row))
    return found
