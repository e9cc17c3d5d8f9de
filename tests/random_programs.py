"""Makes programs by chance, always the same ones for a number."""

import random

NAMES = ["a", "b", "row", "Main", "x_1", "event", "text", "length", "onx", "aB"]
TAGS = ["p", "h1", "main_part", "event"]
CAPITALS = ["A", "Main", "B_2", "VIEW"]
TEXTS = ["", "a", 'quo"te', "back\\slash", "new\nline", "\\n", "// none", "</p>", "{a}", "'", "a" * 30]
SIGNS = ["||", "&&", "==", "!=", "<", "<=", ">", ">=", "+", "-", "*", "/"]
NUMBERS = [0, 1, 7, 10, 10 ** 30, 10 ** 30 - 1]


class Maker:
    """Makes parts of programs; `room` is how many levels a part may still have."""

    def __init__(self, seed):
        self.chance = random.Random(seed)

    def some(self, make, room, most=3):
        return [make(room) for _ in range(self.chance.randint(0, most))]

    def name(self, room=0):
        return self.chance.choice(NAMES)

    def expression(self, room):
        chance = self.chance
        if room <= 0 or chance.random() < 0.2:
            return chance.choice([
                ("null",), ("true",), ("false",), ("number", chance.choice(NUMBERS)), ("text", chance.choice(TEXTS)),
                ("name", self.name()), ("list", []), ("record", []), ("function", self.name(), []),
                ("act", self.name(), []),
            ])
        room -= 1
        inner = self.expression
        word = chance.choice([
            "list", "record", "field", "item", "not", "minus", "binary", "binary", "binary", "choice", "function",
            "act", "gather",
        ])
        if word == "list":
            return (word, self.some(inner, room))
        if word == "record":
            return (word, self.some(self.pair, room))
        if word == "field":
            return (word, inner(room), self.name())
        if word == "item":
            return (word, inner(room), inner(room))
        if word in ("not", "minus"):
            return (word, inner(room))
        if word == "binary":
            return (word, chance.choice(SIGNS), inner(room), inner(room))
        if word == "choice":
            return (word, inner(room), inner(room), inner(room))
        if word in ("function", "act"):
            return (word, self.name(), self.some(inner, room))
        condition = chance.choice([None, inner(room)])
        return (word, inner(room), self.name(), inner(room), condition)

    def pair(self, room):
        return (self.name(), self.expression(room))

    def tag_pair(self, room):
        return (self.chance.choice(TAGS), self.expression(room))

    def constant(self, room):
        chance = self.chance
        number = chance.choice([1, -1]) * chance.choice(NUMBERS)
        if room <= 0 or chance.random() < 0.3:
            return chance.choice([None, True, False, number, chance.choice(TEXTS), [], {}])
        if chance.random() < 0.5:
            return self.some(self.constant, room - 1)
        return {self.name(): self.constant(room - 1) for _ in range(chance.randint(0, 3))}

    def block(self, room):
        return self.some(self.statement, room)

    def statement(self, room):
        chance = self.chance
        words = ["set", "call", "log", "stop", "prevent"]
        word = chance.choice(words + ["if", "later", "after", "every"] * (room > 0))
        if word == "set":
            return (word, self.name(), self.expression(2))
        if word == "call":
            path = ("name", self.name())
            for _ in range(chance.randint(0, 2)):
                path = ("field", path, self.name())
            return (word, path, self.some(self.expression, 2))
        if word == "log":
            return (word, self.some(self.expression, 2))
        if word == "if":
            return (word, self.expression(2), self.block(room - 1), self.block(room - 1))
        if word == "later":
            return (word, self.block(room - 1))
        if word in ("after", "every"):
            return (word, self.expression(2), self.block(room - 1))
        return (word,)

    def nodes(self, room):
        return self.some(self.node, room)

    def node(self, room):
        chance = self.chance
        words = ["text", "show", "slot"]
        word = chance.choice(words + ["element", "use", "if", "each", "provide", "await", "try"] * (room > 0))
        room -= 1
        if word == "text":
            return (word, chance.choice(TEXTS))
        if word == "show":
            return (word, self.expression(2))
        if word == "element":
            attributes = self.some(self.tag_pair, 2, 2)
            acts = self.some(self.tag_pair, 2, 2)
            return (word, chance.choice(TAGS), attributes, acts, self.nodes(room))
        if word == "use":
            return (word, chance.choice(CAPITALS), self.some(self.pair, 2, 2), self.nodes(room))
        if word == "if":
            return (word, self.expression(2), self.nodes(room), self.nodes(room))
        if word == "each":
            index = chance.choice([None, self.name()])
            key = chance.choice([None, self.expression(2)])
            return (word, self.name(), index, self.expression(2), key, self.nodes(room))
        if word == "provide":
            return (word, self.name(), self.expression(2), self.nodes(room))
        if word == "await":
            return (word, self.nodes(room), self.nodes(room))
        if word == "try":
            return (word, self.nodes(room), self.name(), self.nodes(room))
        return (word,)

    def store(self, room):
        return (self.name(), self.constant(room))

    def definition(self, room):
        return (self.chance.choice(["let", "resource"]), self.name(), self.expression(room))

    def handler(self, room):
        return (self.name(), self.some(self.name, 0), self.block(room))

    def effect(self, room):
        return (self.some(self.expression, 2), self.block(room), self.block(room))

    def component(self, room):
        return {
            "name": self.chance.choice(CAPITALS),
            "parameters": self.some(self.name, 0),
            "contexts": self.some(self.name, 0, 2),
            "cells": self.some(self.pair, room, 2),
            "definitions": self.some(self.definition, room, 2),
            "handlers": self.some(self.handler, room, 2),
            "effects": self.some(self.effect, room, 1),
            "view": self.nodes(room),
        }

    def program(self, room):
        return {"stores": self.some(self.store, room), "components": self.some(self.component, room)}
