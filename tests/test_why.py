"""Why components were rendered ([69], [70])."""

import copy
import unittest

from tests.passes import Show, told
from tests.helpers import shares
from viewloom.passes.instances import Instance, walk
from viewloom.tools.why import reasons, why

COMPONENT = {
    "name": "A", "parameters": ["p", "q"], "contexts": ["c", "d"],
    "cells": [("s", ("null",)), ("t", ("null",))], "definitions": [("let", "l", ("null",))], "handlers": [],
    "effects": [], "view": [],
}
NAMES = ["x", "y", "p", "q", "c", "d", "s", "t", "l"]


def instance(env=None, slot=(), name="A", number=1):
    found = Instance("component", number, "", name=name)
    found.env = {name: 0 for name in NAMES} if env is None else env
    found.slot = slot
    return found


def changed(**more):
    return instance({**{name: 0 for name in NAMES}, **more})


class Reasons(unittest.TestCase):
    def reasons(self, before, now, component=None):
        return reasons(component or COMPONENT, ["x", "y"], before, now)

    def test_new(self):
        self.assertEqual(self.reasons(None, instance()), ["new"])
        resources = {**COMPONENT, "definitions": [("resource", "r", ("null",))]}
        self.assertEqual(self.reasons(None, instance(), resources), ["new"])

    def test_none(self):
        self.assertEqual(self.reasons(instance(), instance()), [])
        # What a definition gives is no reason.
        self.assertEqual(self.reasons(instance(), changed(l=5)), [])

    def test_each_alone(self):
        for name, reason in [("x", "store x"), ("y", "store y"), ("p", "parameter p"), ("q", "parameter q"),
                             ("c", "context c"), ("d", "context d"), ("s", "state s"), ("t", "state t")]:
            self.assertEqual(self.reasons(instance(), changed(**{name: 1})), [reason])
            self.assertEqual(self.reasons(changed(**{name: [1]}), changed(**{name: [2]})), [reason])
            self.assertEqual(self.reasons(changed(**{name: {"a": [1]}}), changed(**{name: {"a": [1]}})), [])
        self.assertEqual(self.reasons(instance(), instance(slot=(("text", "0", "a"),))), ["slot"])
        resources = {**COMPONENT, "definitions": [("let", "l", ("null",)), ("resource", "r", ("null",))]}
        self.assertEqual(self.reasons(instance(), instance(), resources), ["resources"])

    def test_all_in_order(self):
        resources = {**COMPONENT, "definitions": [("resource", "r", ("null",))]}
        now = instance({name: 1 for name in NAMES}, (("text", "0", "a"),))
        self.assertEqual(reasons(resources, ["y", "x"], instance(), now), [
            "store y", "store x", "parameter p", "parameter q", "context c", "context d", "state s", "state t", "slot",
            "resources",
        ])

    def test_values_that_are_not_the_same(self):
        for a, b, is_same in [(1, True, False), (0, False, False), ([1], [True], False), ({"a": 0}, {"a": False}, False),
                              (None, False, False), ("", None, False), ({"a": 1, "b": 2}, {"b": 2, "a": 1}, True),
                              (("act", 1, "h", [1]), ("act", 1, "h", [True]), False), ([], {}, False)]:
            self.assertEqual(self.reasons(changed(p=a), changed(p=b)), [] if is_same else ["parameter p"], (a, b))

    def test_what_was_not_there_before(self):
        without = instance({name: 0 for name in NAMES if name != "y"})
        self.assertEqual(self.reasons(without, instance()), ["store y"])
        self.assertEqual(self.reasons(without, changed(y=None)), ["store y"])
        self.assertEqual(self.reasons(instance({}), instance({})), [])
        self.assertEqual(self.reasons(instance(), without), ["store y"])

    def test_slots(self):
        slots = [(), (("text", "0", "a"),), (("text", "0", "b"),), (("text", "1", "a"),),
                 (("use", "0", "B", (("v", 1),), ()),), (("use", "0", "B", (("v", True),), ()),)]
        for a in slots:
            for b in slots:
                self.assertEqual(self.reasons(instance(slot=a), instance(slot=b)), [] if a is b else ["slot"])

    def test_nothing_changes(self):
        before, now, stores = instance(), changed(p=[1]), ["x", "y"]
        kept = told([before, now])
        reasons(COMPONENT, stores, before, now).clear()
        self.assertEqual((told([before, now]), stores), (kept, ["x", "y"]))


PROGRAM = '''
store n = 0;
store m = 0;
component Main(a) {
  state s = 0;
  view {
    try { <Leaf v={a}/> } catch f { <Leaf v={f.message}/> }
    provide theme = m { <p><Reader/></p> <Box>{s}</Box> <Box>"still"</Box> }
    <Plain/>
  }
}
component Leaf(v) { view { {v} } }
component Reader() { context theme; view { {theme} } }
component Box() { view { slot } }
component Plain() { view { "plain" } }
'''
WAITING = '''
component Main(a, k) { view { await { <Asker k={k}/> <Leaf v={a}/> } else { <Leaf v={a}/> } <Leaf v={1}/> } }
component Asker(k) { resource r = k; view { {r} <Leaf v={r}/> } }
component Leaf(v) { view { {v} } }
'''


class Why(unittest.TestCase):
    def go(self, show, lanes=(1,)):
        """Makes a pass; returns why, with the names and reasons only."""
        before = [] if show.tree is None else [show.tree]
        show.go(lanes)
        found = why(show.program, before, [show.tree])
        self.assertTrue(all(show.find(number).name == name for number, name, _ in found))
        return [(name, told) for _, name, told in found]

    def test_first(self):
        show = Show(PROGRAM, {"a": 1})
        self.assertEqual(self.go(show), [(name, ["new"]) for name in ("Main", "Leaf", "Reader", "Box", "Box", "Plain")])
        self.assertEqual(why(show.program, [], [])[:], [])
        self.assertEqual(why(show.program, [show.tree], []), [])
        self.assertEqual(why(show.program, [show.tree], [show.tree]), [])

    def test_order_and_ids(self):
        show = Show(PROGRAM, {"a": 1})
        show.go()
        order = [one.number for one in walk([show.tree]) if one.form == "component"]
        self.assertEqual([number for number, _, _ in why(show.program, [], [show.tree])], order)

    def test_changes(self):
        show = Show(PROGRAM, {"a": 1})
        self.go(show)
        self.assertEqual(self.go(show), [])
        show.values = {"a": 2}
        self.assertEqual(self.go(show), [("Main", ["parameter a"]), ("Leaf", ["parameter v"])])
        show.send("Main", "s", ("number", 7))
        self.assertEqual(self.go(show), [("Main", ["state s"]), ("Box", ["slot"])])
        show.stores["n"] = 1
        each = ("Main", "Leaf", "Reader", "Box", "Box", "Plain")
        self.assertEqual(self.go(show), [(name, ["store n"]) for name in each])
        show.stores["m"] = 5
        self.assertEqual(self.go(show), [
            ("Main", ["store m"]), ("Leaf", ["store m"]), ("Reader", ["store m", "context theme"]), ("Box", ["store m"]),
            ("Box", ["store m"]), ("Plain", ["store m"]),
        ])
        show.stores["n"] = False
        show.values = {}
        self.assertEqual(self.go(show)[:2], [("Main", ["store n", "parameter a"]), ("Leaf", ["store n", "parameter v"])])

    def test_components_in_failed_trys(self):
        show = Show(PROGRAM.replace("{v}", "{v + 0}"), {"a": 1})
        self.go(show)
        show.values = {"a": [1]}
        # In the nodes behind catch stands another component.
        show.program = Show(PROGRAM.replace("{v}", '{v == [1] ? 1 / 0 : text(v)}')).program
        self.assertEqual(self.go(show), [("Main", ["parameter a"]), ("Leaf", ["new"])])

    def test_awaits(self):
        show = Show(WAITING, {"a": 1, "k": "x"})
        self.assertEqual(self.go(show), [("Main", ["new"]), ("Leaf", ["new"]), ("Leaf", ["new"])])
        show.answers = [("x", ("value", "X"))]
        self.assertEqual(self.go(show), [("Asker", ["new"]), ("Leaf", ["new"]), ("Leaf", ["new"])])
        self.assertEqual(self.go(show), [("Asker", ["resources"])])
        show.values = {"a": 1, "k": "y"}
        # What waits hides its kids, which are not told.
        self.assertEqual(self.go(show), [("Main", ["parameter k"]), ("Leaf", ["new"])])
        self.assertEqual(self.go(show), [])
        show.answers.append(("y", ("value", "Y")))
        self.assertEqual(self.go(show), [("Asker", ["parameter k", "resources"]), ("Leaf", ["parameter v"])])

    def test_another_name(self):
        show = Show(PROGRAM)
        old, new = instance(name="Leaf", number=4), instance(name="Box", number=4)
        self.assertEqual(why(show.program, [old], [new]), [(4, "Box", ["new"])])
        self.assertEqual(why(show.program, [old], [instance(name="Leaf", number=5)]), [(5, "Leaf", ["new"])])
        element = Instance("element", 4, "", name="Leaf")
        self.assertEqual(why(show.program, [element], [instance(name="Leaf", number=4)]), [(4, "Leaf", ["new"])])

    def test_only_components_are_told(self):
        # A context has the name of a component.
        show = Show('component Main() { view { provide Leaf = 1 { <p>"a"</p> } } } component Leaf() { context Leaf; view {} }')
        show.go()
        self.assertEqual(why(show.program, [], [show.tree]), [(1, "Main", ["new"])])

    def test_nothing_changes(self):
        show = Show(PROGRAM, {"a": [1]})
        show.go()
        before = show.tree
        show.values = {"a": [2]}
        show.go()
        kept = (told([before]), told([show.tree]), copy.deepcopy(show.program))
        found = why(show.program, [before], [show.tree])
        self.assertFalse(shares(found, [before, show.tree]))
        found[0][2].clear()
        self.assertEqual((told([before]), told([show.tree]), show.program), kept)
