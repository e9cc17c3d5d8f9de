"""Makes sources of sound programs by chance, with components C0, C1 and so on, always the same ones for a number."""

import random

from viewloom.checks.checking import is_sound
from viewloom.words.reading import parse_program


def sound_program(seed):
    """Returns a sound program."""
    for index in range(300):
        program = parse_program(SourceMaker(seed * 1000 + index).program())
        if is_sound(program):
            return program
    raise ValueError(seed)


class SourceMaker:
    """Makes sources; what uses a name that cannot be used there makes them unsound now and then."""

    def __init__(self, seed):
        self.chance = random.Random(seed)
        self.count = self.chance.randint(2, 4)
        self.index = 0
        self.stores = [f"s{index}" for index in range(self.chance.randint(0, 2))]
        self.handlers = []
        self.cells = []

    def pick(self, *words):
        return self.chance.choice(words)

    def some(self, make, least, most):
        return " ".join([make() for _ in range(self.chance.randint(least, most))])

    def constant(self):
        return self.pick("0", "1", "2", "7", "null", "true", "false", '"a"', '"b"', "[1, 2]", "[]", "{u: 1}", '"true"')

    def expression(self, names, room=2):
        if room == 0 or self.chance.random() < 0.35:
            return self.pick(*names) if names and self.chance.random() < 0.6 else self.constant()
        a, b, c = [self.expression(names, room - 1) for _ in range(3)]
        forms = [
            f"({a} + {b})", f"({a} == {b})", f"({a} == {b} ? {b} : {c})", f"[{a}, {b}]", f"{{u: {a}, w: {b}}}",
            f'get({a}, "u", {b})', f"[{a} for g{room} in range({self.pick('0', '1', '2', '3')})]", f"text({a})", f"{a}.u",
            f"(1 / {a})", f"max(0, min({a}, 5))", f"length({a})",
        ]
        if self.handlers:
            forms.append(f"do {self.pick(*self.handlers)}({a})")
        return self.pick(*forms)

    def shown(self, names):
        """An expression that mostly can be shown."""
        name = self.pick(*names)
        return self.pick(f'({name} == 1 ? "one" : "other")', '"t"', "3", name, f"({name} == null ? 0 : 1)")

    def statement(self, names, room=2):
        word = self.pick("set", "set", "set", "log", "if", "later", "after", "every", "word", "call", "log")
        inner = self.statement(names, room - 1) if room else "log();"
        if word == "set" and self.cells + self.stores:
            return f"{self.pick(*self.cells, *self.stores)} = {self.expression(names, 1)};"
        if word == "if":
            return f"if {self.expression(names, 1)} == {self.constant()} {{ {inner} }} else {{ log(1); }}"
        if word == "later":
            return f"later {{ {inner} }}"
        if word == "after":
            return f"after {self.pick('0', '1', '5', '20')} {{ {inner} }}"
        if word == "every" and self.chance.random() < 0.3:
            return f"every {self.pick('3', '7')} {{ {inner} }}"
        if word == "word":
            return self.pick("stop;", "prevent;")
        if word == "call" and self.chance.random() < 0.3:
            return f"call {self.pick(*names)}({self.constant()});"
        return f"log({self.expression(names, 1)});"

    def element(self, names, nodes):
        tag = self.pick("p", "b", "input", "select", "option", "area")
        words = self.chance.sample(["value", "kind", "name", "disabled", "checked", "default"], self.chance.randint(0, 2))
        pairs = "".join([f" {word}={{{self.shown(names)}}}" for word in words])
        if tag == "input" and self.chance.random() < 0.4:
            pairs = ' kind="box"'
        words = self.chance.sample(["click", "input", "change", "keydown", "click_down"], self.chance.randint(0, 2))
        acts = "".join([f" on {word}={{do {self.pick(*self.handlers)}({self.constant()})}}" for word in words])
        return f"<{tag}{pairs}{acts}>{nodes}</{tag}>"

    def node(self, names, room):
        word = self.pick("text", "text", "element", "element", "use", "use", "if", "each", "provide", "await", "try", "slot")
        if room == 0 or word == "text":
            return self.pick('"txt"', '""', f"{{{self.shown(names)}}}")
        own = {"each": [f"e{room}"], "try": [f"f{room}.message"]}.get(word, [])
        nodes = self.some(lambda: self.node(names, room - 1), 0, 2)
        more = self.some(lambda: self.node(names + own, room - 1), 0, 2)
        if word == "element":
            return self.element(names, nodes)
        if word == "use" and self.index + 1 < self.count:
            name = f"C{self.chance.randint(self.index + 1, self.count - 1)}"
            return f"<{name} p={{{self.expression(names, 1)}}} q={{{self.pick(*names)}}}>{nodes}</{name}>"
        if word == "if":
            return f"if {self.expression(names, 1)} == {self.constant()} {{ {nodes} }} else {{ {more} }}"
        if word == "each":
            return f"each e{room} in range({self.pick('0', '1', '2', '3')}) {{ {more} }}"
        if word == "provide":
            return f"provide {self.pick('near', 'far')} = {self.expression(names, 1)} {{ {nodes} }}"
        if word == "await":
            return f"await {{ {nodes} }} else {{ {more} }}"
        if word == "try":
            return f"try {{ {nodes} }} catch f{room} {{ {{f{room}.message}} <b on click={{f{room}.retry}}/> {more} }}"
        return "slot"

    def component(self):
        self.handlers = [f"h{index}" for index in range(self.chance.randint(1, 2))]
        self.cells = [f"x{index}" for index in range(self.chance.randint(0, 2))]
        names = [*self.stores, "p", "q", "near", "far", *self.cells]
        lines = ["context near; context far;"] + [f"state {name} = {self.constant()};" for name in self.cells]
        if self.chance.random() < 0.5:
            lines.append(f"let l = {self.pick('[p]', '[q, 1]', 'p == q')};")
            names.append("l")
        if self.index and self.chance.random() < 0.35:
            lines.append(f"resource r = {self.pick('p', 'q', '[p]', '1', 'near')};")
            names.append("r")
        for name in self.handlers:
            lines.append(f"handler {name}(a) {{ {self.some(lambda: self.statement(names + ['a', 'event']), 1, 3)} }}")
        for _ in range(self.chance.randint(0, 2)):
            block, cleanup = self.some(lambda: self.statement(names), 1, 2), self.statement(names)
            lines.append(f"effect [{self.pick(*names)}] {{ {block} }} cleanup {{ {cleanup} }}")
        view = self.some(lambda: self.node(names, 4), 1, 3)
        return f"component C{self.index}(p, q) {{ {' '.join(lines)} view {{ {view} }} }}"

    def program(self):
        pieces = [f"store {name} = {self.pick('0', '1', 'null', '[1]')};" for name in self.stores]
        for index in range(self.count):
            self.index = index
            pieces.append(self.component())
        return "\n".join(pieces)
