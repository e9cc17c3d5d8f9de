"""Passes."""

from viewloom.errors import Fault
from viewloom.lanes.schedule import Schedule
from viewloom.passes.cells import Cell
from viewloom.passes.instances import Instance, copied, copied_runs, copy_rendering, walk
from viewloom.passes.outcomes import Holds, Waits
from viewloom.passes.programs import has_resources
from viewloom.passes.spots import Spot
from viewloom.values.copies import copied_names, copied_pairs
from viewloom.values.evaluating import evaluate, values_of
from viewloom.values.plain import copy_of, has_act, same
from viewloom.views.copies import copied_descriptions
from viewloom.views.describing import describe
from viewloom.views.kinds import kind_of, same_descriptions

LOWEST_LEVEL = 30
MOST_RENDERINGS = 200
MOST_INSTANCES = 200


def kind_of_instance(instance):
    """Returns the kind of the descriptions of which an instance was made."""
    if instance.form == "component":
        return ("use", instance.name)
    if instance.form in ("element", "provide"):
        return (instance.form, instance.name)
    return (instance.form,)


def kids_before(old):
    """Returns the list of the kids of an instance that was there, empty if there was none."""
    if old is None:
        return []
    return old.kids


class Pass:
    """Makes a tree from the last one.

    What fails raises Fault, what waits raises Waits, and what holds raises Holds, until one of the parts around it, or
    the pass itself, goes on with this and gives back the ids that were taken in it.
    """

    def __init__(self, program, lanes, *, stores, answers, next_id, anew=False):
        self.components = {component["name"]: component for component in program["components"]}
        self.lanes = list(lanes)
        self.stores = copied_names(stores)
        self.answers = [(copy_of(key), (word, copy_of(given))) for key, (word, given) in answers]
        self.next_id = next_id
        self.anew = anew
        self.rendered = []
        self.asked = []

    @property
    def cost(self):
        """The number of portions that the pass costs."""
        return max(1, len(self.rendered))

    def run(self, component, values, tree):
        """Makes the tree of a component with parameters from the last tree, which may be None.

        Returns ("tree", instance), ("fails", message), ("waits", keys) or ("holds", keys).
        """
        first = self.next_id
        use = ("use", "", component, tuple([(name, values[name]) for name in values]), ())
        try:
            made = self.make_all((use,), [] if tree is None else [tree], Spot(1, {}))
            if len(list(walk(made))) > MOST_INSTANCES:
                raise Fault("too many instances")
        except Fault as failure:
            outcome = ("fails", failure.message)
        except Waits as waiting:
            outcome = ("waits", waiting.sought)
        except Holds as holding:
            outcome = ("holds", holding.sought)
        else:
            return ("tree", made[0])
        self.next_id = first
        return outcome

    def make_all(self, descriptions, members, spot):
        """Returns the instances of descriptions, made of the members that were there."""
        there = {(member.key, kind_of_instance(member)): member for member in members}
        made = []
        sought = []
        for description in descriptions:
            first = self.next_id
            try:
                made.append(self.make(description, there.get((description[1], kind_of(description))), spot))
            except Waits as error:
                self.next_id = first
                sought += error.sought
        if sought:
            raise Waits(sought)
        return made

    def make(self, description, old, spot):
        """Returns the instance of a description, made of an old one, which may be None."""
        if spot.level > LOWEST_LEVEL:
            raise Fault("nested too deep")
        instance = self.begun(description, old)
        form = instance.form
        if form == "text":
            instance.text = description[2]
        elif form == "element":
            self.make_element(instance, description, old, spot)
        elif form == "component":
            self.make_component(instance, description, old, spot)
        elif form == "provide":
            self.make_provide(instance, description, old, spot)
        elif form == "await":
            self.make_await(instance, description, old, spot)
        else:
            self.make_try(instance, description, old, spot)
        return instance

    def begun(self, description, old):
        """Returns an instance that has its id, its key and its kind only."""
        if old is not None:
            return Instance(old.form, old.number, old.key, name=old.name)
        form, *names = kind_of(description)
        number = self.next_id
        self.next_id += 1
        name = names[0] if names else None
        return Instance("component" if form == "use" else form, number, description[1], name=name)

    def make_element(self, instance, description, old, spot):
        """Makes what an element has."""
        _, _, _, attributes, acts, kids = description
        instance.attributes = list(attributes)
        instance.acts = list(copied_pairs(acts))
        instance.kids = self.make_all(kids, kids_before(old), spot.below())

    def make_provide(self, instance, description, old, spot):
        """Makes what a provide has."""
        _, _, name, value, kids = description
        instance.provided = copy_of(value)
        instance.kids = self.make_all(kids, kids_before(old), spot.providing(name, value))

    def make_await(self, instance, description, old, spot):
        """Makes what an await has."""
        _, _, kids, fallback = description
        first = self.next_id
        try:
            instance.kids = self.make_all(kids, kids_before(old), spot.below())
        except Waits as error:
            self.next_id = first
            if self.can_hold() and old is not None and not old.waits:
                raise Holds(error.sought)
            instance.waits = True
        if instance.waits:
            instance.kids = copied(kids_before(old))
            instance.fallback = self.make_all(fallback, [] if old is None else old.fallback, spot.below())

    def can_hold(self):
        """Returns whether every lane of the pass is transition or idle."""
        return all([lane >= Schedule.TRANSITION for lane in self.lanes])

    def make_try(self, instance, description, old, spot):
        """Makes what a try has."""
        _, _, kids, name, nodes, environment, owner, slot = description
        failed = old is not None and old.message is not None
        if old is None:
            instance.tries = Cell("tries", [0, None])
        else:
            instance.tries = old.tries.processed(self.lanes, owner=instance.number)
        count, message = instance.tries.value
        if message is None and failed and old.failed_at == count:
            message = old.message
        if message is None:
            message = self.message_of(instance, kids, [] if failed else kids_before(old), spot)
        if message is not None:
            instance.message = message
            instance.failed_at = count
            inner = dict(environment)
            inner[name] = {"message": message, "retry": ("act", instance.number, "retry", [])}
            descriptions = describe(nodes, inner, owner, slot)
            instance.kids = self.make_all(descriptions, kids_before(old) if failed else [], spot.below())

    def message_of(self, instance, kids, members, spot):
        """Makes the kids of a try; returns None, or the message with which they fail."""
        first = self.next_id
        try:
            instance.kids = self.make_all(kids, members, spot.below())
        except Fault as error:
            self.next_id = first
            return error.message
        return None

    def make_component(self, instance, description, old, spot):
        """Makes what a component has."""
        if instance.name not in self.components:
            # Where a component was kept while another program came, its view can use one that is not there any more.
            raise Fault(f"unknown component {instance.name}")
        component = self.components[instance.name]
        instance.parameters = copied_names(dict(description[3]))
        instance.slot = copied_descriptions(description[4])
        self.begin_environment(instance, component, spot)
        self.make_cells(instance, component, old)
        if old is not None and self.is_left_out(instance, component, old):
            copy_rendering(old, instance)
        else:
            self.render(instance, component)
        runs = [] if old is None else copied_runs(old.runs)
        missing = len(component["effects"]) - len(runs)
        instance.runs = runs[:len(component["effects"])] + [None] * missing
        instance.kids = self.make_all(instance.described, kids_before(old), spot.below())

    def begin_environment(self, instance, component, spot):
        """Puts what comes ahead of the cells into the environment of a component."""
        environment = copied_names(self.stores)
        for name in component["parameters"]:
            environment[name] = copy_of(instance.parameters.get(name))
        for name in component["contexts"]:
            environment[name] = copy_of(spot.contexts.get(name))
        instance.env = environment

    def make_cells(self, instance, component, old):
        """Makes the cells of a component, whose values join its environment."""
        cells = []
        if old is None:
            for name, expression in component["cells"]:
                cell = Cell(name, evaluate(expression, instance.env, instance.number))
                cells.append(cell)
                # The cells behind it see its value.
                instance.env[name] = cell.present
        else:
            for before in old.cells:
                cell = before.processed(self.lanes, owner=instance.number)
                cells.append(cell)
                instance.env[cell.name] = cell.present
        instance.cells = cells

    def is_left_out(self, instance, component, old):
        """Returns whether a component need not be rendered, since it has what it had at its last rendering."""
        if self.anew or has_resources(component) or not same_descriptions(instance.slot, old.slot):
            return False
        for name in instance.env:
            if name not in old.env or not same(instance.env[name], old.env[name]):
                return False
        return True

    def render(self, instance, component):
        """Renders a component."""
        if len(self.rendered) >= MOST_RENDERINGS:
            raise Fault("too many components")
        self.rendered.append(instance.number)
        environment = instance.env
        owner = instance.number
        for word, name, expression in component["definitions"]:
            value = evaluate(expression, environment, owner)
            environment[name] = self.answer_to(value) if word == "resource" else value
        instance.described = describe(component["view"], environment, owner, instance.slot)
        instance.wanted = [copy_of(values_of(effect[0], environment, owner)) for effect in component["effects"]]

    def answer_to(self, key):
        """Returns the value of the answer for a key."""
        if has_act(key):
            raise Fault("not a key")
        for known, (word, given) in self.answers:
            if same(known, key):
                if word == "error":
                    raise Fault(given)
                return copy_of(given)
        if not any([same(known, key) for known in self.asked]):
            self.asked.append(copy_of(key))
        raise Waits([key])
