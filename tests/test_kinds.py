"""Kinds of descriptions, and which of them are the same ([29] to [31])."""

import copy
import random
import unittest

from tests.helpers import nodes
from tests.random_programs import Maker
from viewloom.checks.checking import is_sound
from viewloom.errors import Fault
from viewloom.views.describing import describe
from viewloom.views.kinds import keys_differ, kind_of, same_description, same_descriptions, weight

A = ("text", "0", "a")
B = ("text", "1", "b")
ACT = ("act", 1, "h", [1])
WHOLE = [
    A,
    ("element", "0", "p", (("a", "1"), ("b", "2")), (("click", ACT), ("input", ("act", 1, "g", []))), (A, B)),
    ("use", "0", "C", (("x", 1), ("y", [1, {"a": 2, "b": 3}])), (A,)),
    ("provide", "0", "c", {"a": [1]}, (A,)),
    ("await", "0", (A,), (B,)),
    ("try", "0", (A,), "f", nodes("{f.message} <p/>"), {"a": 1, "b": [2]}, 4, (A, B)),
]
# Each one like one of those above, but for one part.
OTHERS = [
    ("text", "1", "a"), ("text", "0", "b"), ("text", "0", ""),
    ("element", "1", *WHOLE[1][2:]), ("element", "0", "q", *WHOLE[1][3:]),
    ("element", "0", "p", (("a", "1"), ("b", "3")), *WHOLE[1][4:]),
    ("element", "0", "p", (("a", "1"), ("c", "2")), *WHOLE[1][4:]),
    ("element", "0", "p", (("a", "1"),), *WHOLE[1][4:]), ("element", "0", "p", (), *WHOLE[1][4:]),
    (*WHOLE[1][:4], (("click", ACT),), (A, B)),
    (*WHOLE[1][:4], (("input", ("act", 1, "g", [])), ("click", ACT)), (A, B)),
    (*WHOLE[1][:4], (("click", ("act", 2, "h", [1])), WHOLE[1][4][1]), (A, B)),
    (*WHOLE[1][:4], (("click", ("act", 1, "g", [1])), WHOLE[1][4][1]), (A, B)),
    (*WHOLE[1][:4], (("click", ("act", 1, "h", [True])), WHOLE[1][4][1]), (A, B)),
    (*WHOLE[1][:4], (("click", ("act", 1, "h", [1, 2])), WHOLE[1][4][1]), (A, B)),
    (*WHOLE[1][:4], (("press", ACT), WHOLE[1][4][1]), (A, B)),
    (*WHOLE[1][:5], (A,)), (*WHOLE[1][:5], (B, A)), (*WHOLE[1][:5], ()), (*WHOLE[1][:5], (A, ("text", "1", "a"))),
    (*WHOLE[1][:5], (A, B, ("text", "2", "c"))),
    ("use", "2", *WHOLE[2][2:]), ("use", "0", "D", *WHOLE[2][3:]),
    ("use", "0", "C", (("x", True), WHOLE[2][3][1]), (A,)), ("use", "0", "C", (("x", 1),), (A,)),
    ("use", "0", "C", (WHOLE[2][3][1], ("x", 1)), (A,)), ("use", "0", "C", (("z", 1), WHOLE[2][3][1]), (A,)),
    ("use", "0", "C", (("x", 1), ("y", [1, {"a": 2, "b": 4}])), (A,)),
    ("use", "0", "C", (("x", 1), ("y", [True, {"a": 2, "b": 3}])), (A,)),
    ("use", "0", "C", (*WHOLE[2][3], ("z", None)), (A,)), (*WHOLE[2][:4], ()), (*WHOLE[2][:4], (B,)),
    ("provide", "1", *WHOLE[3][2:]), ("provide", "0", "d", *WHOLE[3][3:]), ("provide", "0", "c", {"a": [2]}, (A,)),
    ("provide", "0", "c", {"a": [True]}, (A,)), ("provide", "0", "c", None, (A,)), (*WHOLE[3][:4], ()),
    ("await", "1", (A,), (B,)), ("await", "0", (B,), (B,)), ("await", "0", (A,), (A,)), ("await", "0", (A,), ()),
    ("await", "0", (), (B,)), ("await", "0", (B,), (A,)), ("await", "0", (A, B), ()),
    ("try", "1", *WHOLE[5][2:]), ("try", "0", (), *WHOLE[5][3:]), (*WHOLE[5][:3], "g", *WHOLE[5][4:]),
    (*WHOLE[5][:4], nodes("{f.message} <q/>"), *WHOLE[5][5:]), (*WHOLE[5][:4], [], *WHOLE[5][5:]),
    (*WHOLE[5][:5], {"a": 1}, *WHOLE[5][6:]), (*WHOLE[5][:5], {"a": 1, "b": [2], "c": None}, *WHOLE[5][6:]),
    (*WHOLE[5][:5], {"a": 1, "b": [3]}, *WHOLE[5][6:]), (*WHOLE[5][:5], {"a": True, "b": [2]}, *WHOLE[5][6:]),
    (*WHOLE[5][:5], {"a": 1, "c": [2]}, *WHOLE[5][6:]), (*WHOLE[5][:6], 5, (A, B)), (*WHOLE[5][:7], (A,)),
    (*WHOLE[5][:7], (B, A)), (*WHOLE[5][:7], ()), (*WHOLE[5][:7], (A, ("text", "1", "c"))),
    # Alike in all but the kind.
    ("element", "0", "C", (), (), ()), ("use", "0", "C", (), ()), ("provide", "0", "C", None, ()),
    ("await", "0", (), ()), ("use", "0", "p", (), ()), ("element", "0", "p", (), (), ()),
]


def around(description, place):
    """Returns a description that has another one in it."""
    if place == "element":
        return ("element", "w", "p", (), (), (A, description))
    if place == "use":
        return ("use", "w", "C", (), (description,))
    if place == "provide":
        return ("provide", "w", "c", None, (description,))
    if place == "await":
        return ("await", "w", (description,), (B,))
    if place == "fallback":
        return ("await", "w", (B,), (description,))
    if place == "try":
        return ("try", "w", (description,), "f", [], {}, 1, ())
    return ("try", "w", (), "f", [], {}, 1, (description,))


PLACES = ("element", "use", "provide", "await", "fallback", "try", "slot")


class Kinds(unittest.TestCase):
    def test_kind_of(self):
        kinds = [("text",), ("element", "p"), ("use", "C"), ("provide", "c"), ("await",), ("try",)]
        self.assertEqual([kind_of(description) for description in WHOLE], kinds)
        self.assertEqual(kind_of(("element", "7", "C", (), (), ())), ("element", "C"))

    def test_weight(self):
        self.assertEqual([weight(description) for description in WHOLE], [1, 3, 2, 2, 3, 2])
        self.assertEqual(weight(("await", "0", (WHOLE[1], WHOLE[4]), (WHOLE[5], A))), 10)
        for place in PLACES:
            self.assertEqual(weight(around(WHOLE[1], place)) - weight(around(A, place)), 2 if place != "slot" else 0)

    def test_same(self):
        every = WHOLE + OTHERS
        for index, a in enumerate(every):
            for other, b in enumerate(every):
                self.assertIs(same_description(a, b), index == other, (a, b))
                self.assertIs(same_descriptions((a,), (b,)), index == other)
            self.assertIs(same_description(a, copy.deepcopy(a)), True)

    def test_same_deeper(self):
        for place in PLACES:
            for b in OTHERS:
                for a in WHOLE:
                    self.assertIs(same_description(around(a, place), around(b, place)), False)
                self.assertIs(same_description(around(b, place), around(copy.deepcopy(b), place)), True)
                twice = around(around(b, "element"), place)
                self.assertIs(same_description(twice, around(around(A, "element"), place)), False)
                self.assertIs(same_description(twice, copy.deepcopy(twice)), True)

    def test_order_of_fields_has_no_meaning(self):
        for a, b in [
            (("use", "0", "C", (("x", {"a": 1, "b": 2}),), ()), ("use", "0", "C", (("x", {"b": 2, "a": 1}),), ())),
            (("provide", "0", "c", {"a": 1, "b": 2}, ()), ("provide", "0", "c", {"b": 2, "a": 1}, ())),
            (("try", "0", (), "f", [], {"a": 1, "b": 2}, 1, ()), ("try", "0", (), "f", [], {"b": 2, "a": 1}, 1, ())),
        ]:
            self.assertIs(same_description(a, b), True)
            self.assertIs(same_descriptions((A, a), (A, b)), True)

    def test_same_descriptions(self):
        every = tuple(WHOLE)
        self.assertIs(same_descriptions((), ()), True)
        self.assertIs(same_descriptions(every, copy.deepcopy(every)), True)
        self.assertIs(same_descriptions(every, every[:-1]), False)
        self.assertIs(same_descriptions(every[:-1], every), False)
        self.assertIs(same_descriptions((), (A,)), False)
        self.assertIs(same_descriptions((A, B), (B, A)), False)
        for index in range(len(every)):
            for other in OTHERS[:3] + OTHERS[-3:]:
                self.assertIs(same_descriptions(every, every[:index] + (other,) + every[index + 1:]), False)

    def test_nothing_is_changed(self):
        for a in WHOLE:
            kept = copy.deepcopy(a)
            same_description(a, a)
            kind_of(a)
            weight(a)
            keys_differ((a,))
            self.assertEqual(repr(a), repr(kept))


class Keys(unittest.TestCase):
    def test_keys_differ(self):
        for descriptions, expected in [
            ((), True), ((A,), True), ((A, B), True), ((A, A), False), ((A, B, ("text", "0", "c")), False),
            ((A, ("element", "0", "p", (), (), ())), False), ((A, ("await", "00", (), ())), True),
            ((("text", "s1:a", ""), ("text", "s1:b", "")), True),
        ]:
            self.assertIs(keys_differ(descriptions), expected)

    def test_keys_differ_at_every_depth(self):
        for place in PLACES:
            for inner in PLACES:
                fine = around(around(("await", "9", (A, B), (A, B)), inner), place)
                self.assertIs(keys_differ((fine,)), True)
                for wrong in [("await", "9", (A, A), ()), ("await", "9", (), (B, A, B)),
                              ("element", "9", "p", (), (), (A, A))]:
                    found = keys_differ((("text", "a", ""), around(around(wrong, inner), place)))
                    # A slot is no list that is described here.
                    self.assertIs(found, "slot" in (place, inner))

    def test_lists_are_looked_at_one_by_one(self):
        self.assertIs(keys_differ((("await", "0", (A, B), (A, B)), ("element", "1", "p", (), (), (A, B)))), True)

    def test_all_that_is_described_has_different_keys(self):
        slots = [
            (), (A, B),
            (("element", "0", "p", (), (), (A, B)), ("await", "0*/1", (A,), (A, B)), ("text", "0[0]/0", "")),
            (("use", "0*/0", "C", (), (A,)), ("use", "0", "C", (), (A, B)), ("provide", "1", "c", 1, (A,))),
        ]
        self.assertTrue(all(keys_differ(slot) for slot in slots))
        described = 0
        for seed in range(1500):
            chance = random.Random(seed)
            view = nodes_by_chance(seed, chance)
            slot = chance.choice(slots)
            try:
                found = describe(view, dict(ENVIRONMENT), 1, slot)
            except Fault:
                continue
            described += len(found) > 2
            self.assertIs(keys_differ(found), True, view)
            again = describe(SLOTS, dict(ENVIRONMENT), 1, found) if sum(map(weight, found)) < 20 else ()
            self.assertIs(keys_differ(again), True, view)
        self.assertGreater(described, 300)


SLOTS = nodes('slot each x in row { slot if yes { <p>slot slot</p> } } slot')
ENVIRONMENT = {"row": [1, 2], "texts": ["a", "", "1", "s1:a"], "yes": True, "no": False, "n": 3}


def nodes_by_chance(seed, chance, room=3, depth=0):
    """Returns nodes that can be described: a mixture of all kinds."""
    sources = {
        "text": [("text", "t"), ("show", ("name", "n")), ("slot",), ("slot",)],
        "choice": [("name", "yes"), ("name", "no")],
    }
    found = []
    for _ in range(chance.randint(0, 4)):
        word = chance.choice(["text", "element", "use", "if", "each", "provide", "await", "try"] if room else ["text"])
        inner = [nodes_by_chance(seed, chance, room - 1, depth + 1) for _ in range(2)] if word != "text" else []
        if word == "text":
            found.append(chance.choice(sources["text"]))
        elif word == "element":
            found.append(("element", "p", [], [], inner[0]))
        elif word == "use":
            found.append(("use", "C", [("x", ("name", "n"))], inner[0]))
        elif word == "if":
            found.append(("if", chance.choice(sources["choice"]), inner[0], inner[1]))
        elif word == "each":
            name = f"x{depth}"
            row = chance.choice(["row", "texts"])
            by = chance.choice([None, ("name", name), ("name", f"i{depth}")])
            found.append(("each", name, f"i{depth}", ("name", row), by, inner[0]))
        elif word == "provide":
            found.append(("provide", "c", ("name", "n"), inner[0]))
        elif word == "await":
            found.append(("await", inner[0], inner[1]))
        else:
            found.append(("try", inner[0], "f", inner[1]))
    return found


class Random(unittest.TestCase):
    def test_descriptions_of_random_nodes(self):
        # Described again they are the same; with another text in front they are not.
        for seed in range(400):
            view = Maker(seed).nodes(3)
            component = {"name": "A", "parameters": [], "contexts": [], "cells": [], "definitions": [],
                         "handlers": [], "effects": [], "view": view}
            if not is_sound({"stores": [], "components": [component]}):
                continue
            try:
                first = describe(view, {}, 1, ())
            except Fault:
                continue
            self.assertTrue(same_descriptions(first, describe(copy.deepcopy(view), {}, 1, ())))
            self.assertTrue(keys_differ(first))
            self.assertFalse(same_descriptions(first, describe([("text", "more"), *view], {}, 1, ())))
