"""Controls: their kinds, what they show, settling ([60], [61]), and records of events ([62])."""

import copy
import random
import unittest

from tests.events import page, settled, shows
from tests.helpers import shares
from viewloom.documents.nodes import walk
from viewloom.events.controls import Controls, kind_of_control

OPTIONS = '<option value="a"></option><p><option value="n">none</option></p><option disabled="" value="c"></option>'


class Kinds(unittest.TestCase):
    def test_kinds(self):
        for text, kind in [
            ("<input></input>", "field"), ('<input kind="box"></input>', "box"), ('<input kind="Box"></input>', "field"),
            ('<input kind=""></input>', "field"), ('<input kind="text"></input>', "field"),
            ('<input box="kind"></input>', "field"), ("<area></area>", "field"), ('<area kind="box"></area>', "field"),
            ("<select></select>", "select"), ('<select kind="box"></select>', "select"), ("<option></option>", None),
            ('<option kind="box"></option>', None), ("<p></p>", None), ('<p kind="box" value="a"></p>', None),
            ("box", None), ("input", None), ("<inputs></inputs>", None), ("<textarea></textarea>", None),
        ]:
            self.assertEqual(kind_of_control(page(text)[0]), kind, text)


class Settling(unittest.TestCase):
    def test_new_ones(self):
        for text, wanted in [
            ("<input></input>", ""), ('<input default="d"></input>', "d"), ('<input value="v"></input>', "v"),
            ('<input value="v" default="d"></input>', "v"), ('<input value="" default="d"></input>', ""),
            ('<input checked="true" default="d"></input>', "d"),
            ("<area></area>", ""), ('<area default="d"></area>', "d"), ('<area value="v" default="d"></area>', "v"),
            ('<input kind="box"></input>', False), ('<input kind="box" checked="true"></input>', True),
            ('<input kind="box" checked=""></input>', False), ('<input kind="box" checked="True"></input>', False),
            ('<input kind="box" checked="false" default="true"></input>', False),
            ('<input kind="box" checked="true" default="false"></input>', True),
            ('<input kind="box" default="true"></input>', True), ('<input kind="box" default="x"></input>', False),
            ('<input kind="box" value="true"></input>', False), ('<area kind="box" default="true"></area>', "true"),
            ("<select></select>", ""), (f'<select default="n">{OPTIONS}</select>', "n"), ('<select value="zz"></select>', "zz"), ('<select default="d"></select>', ""),
            (f"<select>{OPTIONS}</select>", "a"), (f'<select default="">{OPTIONS}</select>', "a"),
            (f'<select default="c">{OPTIONS}</select>', "a"), (f'<select default="zz">{OPTIONS}</select>', "a"),
            (f'<select value="c">{OPTIONS}</select>', "c"), (f'<select value="zz" default="a">{OPTIONS}</select>', "zz"),
            (f'<select disabled="">{OPTIONS}</select>', ""), (f'<select disabled="" default="a">{OPTIONS}</select>', ""),
            (f'<select disabled="" value="a">{OPTIONS}</select>', "a"),
            ('<select><option value="a"></option><option>none</option></select>', ""),
            ('<select default="zz"><option>none</option><option value="a"></option></select>', ""),
            ('<select><option value="a"></option><option disabled="">none</option></select>', "a"),
            ('<select><option disabled=""></option><p disabled=""><option value="x"></option></p></select>', ""),
            ('<select><option disabled="" value="x"></option><option value="y"></option></select>', "y"),
        ]:
            controls = settled(page(text))
            self.assertIs(type(controls.shown(1)), type(wanted), text)
            self.assertEqual(controls.shown(1), wanted, text)
            self.assertEqual(len(controls), 1)
            self.assertIs(1 in controls, True)

    def test_what_is_no_control(self):
        controls = settled(page('<p value="a">x<option value="b"></option></p>'))
        self.assertEqual(len(controls), 0)
        for number in (0, 1, 2, 3, 4):
            self.assertIs(number in controls, False)
            self.assertIsNone(controls.shown(number))
        self.assertIsNone(Controls().settle(()))

    def test_returns_nothing_and_changes_no_document(self):
        document = page("<input></input>")
        controls = Controls()
        self.assertEqual((len(controls), controls.shown(1), 1 in controls), (0, None, False))
        self.assertIsNone(controls.show(1, "x"))
        self.assertEqual((len(controls), controls.shown(1), 1 in controls), (0, None, False))
        self.assertIsNone(controls.settle(document))
        self.assertIsNone(controls.show(1, "x"))
        self.assertEqual(controls.shown(1), "x")
        self.assertEqual(document, page("<input></input>"))

    def test_known_ones_that_are_not_bound_stay(self):
        text = '<input default="d"></input><input kind="box" default="true"></input>' + f"<select>{OPTIONS}</select>"
        controls = settled(page(text))
        self.assertEqual(shows(controls, [1, 2, 3]), ["d", True, "a"])
        for number, value in [(1, "typed"), (2, False), (3, "n")]:
            controls.show(number, value)
        for _ in range(2):
            controls.settle(page(text))
            self.assertEqual(shows(controls, [1, 2, 3]), ["typed", False, "n"])
        controls.settle(page(text.replace('"d"', '"e"')))
        self.assertEqual(controls.shown(1), "typed")

    def test_bound_ones_go_back(self):
        document = page('<input value="v"></input><input kind="box" checked="no"></input><select value="zz"></select>')
        controls = settled(document)
        for number, value in [(1, "typed"), (2, True), (3, "a")]:
            controls.show(number, value)
            self.assertEqual(controls.shown(number), value)
        controls.settle(document)
        self.assertEqual(shows(controls, [1, 2, 3]), ["v", False, "zz"])

    def test_bound_and_then_not_any_more(self):
        controls = settled(page('<input value="v" default="d"></input><input kind="box" checked="true"></input>'))
        controls.settle(page('<input default="d"></input><input kind="box" default="false"></input>'))
        self.assertEqual(shows(controls, [1, 2]), ["v", True])
        controls.settle(page('<input value="w"></input><input kind="box" checked="false"></input>'))
        self.assertEqual(shows(controls, [1, 2]), ["w", False])
        controls.settle(page("<input></input>" '<input kind="box"></input>'))
        self.assertEqual(shows(controls, [1, 2]), ["w", False])

    def test_a_select_that_was_bound(self):
        options = '<option value="a"></option><option value="b"></option>'
        controls = settled(page(f'<select value="b">{options}</select>'))
        controls.settle(page(f"<select>{options}</select>"))
        self.assertEqual(controls.shown(1), "b")
        controls.settle(page(f'<select value="zz">{options}</select>'))
        self.assertEqual(controls.shown(1), "zz")
        controls.settle(page(f"<select>{options}</select>"))
        self.assertEqual(controls.shown(1), "a")

    def test_options_that_go(self):
        controls = settled(page('<select><option value="a"></option><option value="b"></option></select>'))
        controls.show(1, "b")
        controls.settle(page('<select><option value="a"></option><option value="b" disabled=""></option></select>'))
        self.assertEqual(controls.shown(1), "a")
        controls.settle(page('<select><option value="x"></option><option value="b"></option></select>'))
        self.assertEqual(controls.shown(1), "x")
        controls.settle(page("<select></select>"))
        self.assertEqual(controls.shown(1), "")
        controls.settle(page('<select><option value="x"></option><option></option></select>'))
        self.assertEqual(controls.shown(1), "")
        # One of two options with one value is not disabled.
        both = '<select default="a"><option value="b"></option><option value="a" disabled=""></option>@</select>'
        self.assertEqual(settled(page(both.replace("@", ""))).shown(1), "b")
        self.assertEqual(settled(page(both.replace("@", '<option value="a"></option>'))).shown(1), "a")

    def test_another_kind(self):
        plain, box, select = "<input></input>", '<input kind="box"></input>', "<select></select>"
        filled = '<input default="f"></input>'
        controls = settled(page(plain))
        controls.show(1, "typed")
        controls.settle(page(box))
        self.assertIs(controls.shown(1), False)
        controls.show(1, True)
        controls.settle(page(filled))
        self.assertEqual(controls.shown(1), "f")
        controls.show(1, "typed")
        # An input and an area are both fields.
        controls.settle(page('<area default="d"></area>'))
        self.assertEqual(controls.shown(1), "typed")
        controls.settle(page(select))
        self.assertEqual(controls.shown(1), "")
        controls.settle(page("<p></p>"))
        self.assertEqual((controls.shown(1), len(controls)), (None, 0))
        controls.settle(page(filled))
        self.assertEqual(controls.shown(1), "f")

    def test_gone_and_come_again(self):
        controls = settled(page('<input default="d"></input>'))
        controls.show(1, "typed")
        controls.settle(())
        self.assertEqual((len(controls), 1 in controls, controls.shown(1)), (0, False, None))
        controls.show(1, "lost")
        controls.settle(page('<input default="d"></input>'))
        self.assertEqual(controls.shown(1), "d")

    def test_a_control_that_moves_stays(self):
        controls = settled(page("<input></input><p></p>"))
        controls.show(1, "typed")
        controls.settle((("element", 2, "p", (), page("<input></input>")),))
        self.assertEqual(controls.shown(1), "typed")

    def test_a_select_within_a_select(self):
        inner = '<select default="b"><option value="b"></option></select>'
        document = page(f'<select default="b"><option value="a"></option>{inner}</select>')
        controls = settled(document)
        self.assertEqual(shows(controls, [1, 3]), ["b", "b"])
        controls.show(3, "a")
        controls.show(1, "zz")
        controls.settle(document)
        # The options of the inner one are options of the outer one, but not the other way round.
        self.assertEqual(shows(controls, [1, 3]), ["a", "b"])
        controls.settle(page('<select disabled=""><option value="a"></option>' + inner + "</select>"))
        self.assertEqual(shows(controls, [1, 3]), ["", ""])

    def test_a_disabled_element_around(self):
        controls = settled(page(f'<p disabled=""><select>{OPTIONS}</select><input default="d"></input></p>'))
        self.assertEqual(shows(controls, [2, 8]), ["", "d"])

    def test_texts_are_no_options(self):
        self.assertEqual(settled(page('<select>option<option value="b"></option></select>')).shown(1), "b")
        self.assertEqual(len(settled(page("select"))), 0)

    def test_fork(self):
        document = page('<input></input><input kind="box"></input>')
        first = settled(document)
        first.show(1, "a")
        second = first.fork()
        self.assertEqual((len(second), shows(second, [1, 2]), 1 in second), (2, ["a", False], True))
        first.show(1, "b")
        second.show(2, True)
        self.assertEqual((shows(first, [1, 2]), shows(second, [1, 2])), (["b", False], ["a", True]))
        second.settle(())
        self.assertEqual((len(first), len(second)), (2, 0))
        self.assertEqual(shows(first, [1, 2]), ["b", False])
        third = first.fork()
        first.settle(())
        self.assertEqual(shows(third, [1, 2]), ["b", False])
        third.settle(document)
        self.assertEqual(shows(third, [1, 2]), ["b", False])
        self.assertEqual(len(Controls().fork()), 0)

    def test_walks_by_chance(self):
        for seed in range(150):
            chance = random.Random(seed)
            controls = Controls()
            known = {}
            for _ in range(12):
                document = random_page(chance)
                controls.settle(document)
                settle_slowly(known, document)
                for number in range(1, 14):
                    self.assertEqual(controls.shown(number), known.get(number, (None, None))[1], (seed, document))
                    self.assertIs(number in controls, number in known)
                self.assertEqual(len(controls), len(known))
                for number, (kind, _) in list(known.items()):
                    if chance.random() < 0.4:
                        value = chance.choice([True, False] if kind == "box" else ["a", "b", "c", ""])
                        controls.show(number, value)
                        known[number] = (kind, value)


def random_page(chance):
    numbers = chance.sample(range(1, 14), 9)

    def node(room):
        number = numbers.pop()
        names = ["value", "checked", "default", "kind", "disabled"]
        pairs = sorted((name, chance.choice(["a", "b", "c", "true", "box"])) for name in names if chance.random() < 0.25)
        kids = []
        while room and numbers and chance.random() < 0.6:
            kids.append(node(room - 1))
        tag = chance.choice(["input", "input", "area", "select", "select", "option", "option", "p"])
        return ("element", number, tag, tuple(pairs), tuple(kids))

    found = []
    while numbers:
        found.append(node(3))
    return tuple(found)


def settle_slowly(known, document):
    """Settles a dict of ids with kinds and what is shown, word for word like [61]."""
    nodes = [node for _, node in walk(document)]
    kinds = {node[1]: kind_of_control(node) for node in nodes}
    for number in list(known):
        if kinds.get(number) != known[number][0]:
            del known[number]
    for node in nodes:
        kind, pairs = kinds[node[1]], dict(node[3])
        if kind == "box":
            if "checked" in pairs:
                known[node[1]] = (kind, pairs["checked"] == "true")
            elif node[1] not in known:
                known[node[1]] = (kind, pairs.get("default") == "true")
        elif kind:
            if "value" in pairs:
                known[node[1]] = (kind, pairs["value"])
            elif node[1] not in known:
                known[node[1]] = (kind, pairs.get("default", ""))

    def look(nodes, disabled, selects):
        for node in nodes:
            off = disabled or "disabled" in dict(node[3])
            inside = selects
            if kinds[node[1]] == "select":
                open_options[node[1]] = []
                inside = selects + [node[1]]
            if node[2] == "option" and not off:
                for number in selects:
                    open_options[number].append(dict(node[3]).get("value", ""))
            look(node[4], off, inside)

    open_options = {}
    look(document, False, [])
    for node in nodes:
        if kinds[node[1]] == "select" and "value" not in dict(node[3]):
            options = open_options[node[1]]
            if known[node[1]][1] not in options:
                known[node[1]] = ("select", options[0] if options else "")


class Records(unittest.TestCase):
    PAGE = page('<p name="out">t<input name="f" value="v"></input><input kind="box" name="b" checked="true"></input>'
                '<select name="s"><option value="o" name="on">x</option></select><b>y</b></p>z<input default="d"></input>')

    def record(self, number, details=None, event="go"):
        return settled(self.PAGE).record_of(self.PAGE, number, event, {} if details is None else details)

    def test_targets(self):
        # p 1: t 2, field 3, box 4, select 5 (option 6 (x 7)), b 8 (y 9); z 10, field 11
        for number, name, value, checked in [
            (1, "out", None, None), (2, "out", None, None), (3, "f", "v", None), (4, "b", None, True),
            (5, "s", "o", None), (6, "on", None, None), (7, "on", None, None), (8, None, None, None),
            (9, None, None, None), (10, None, None, None), (11, None, "d", None), (12, None, None, None),
        ]:
            found = self.record(number)
            self.assertEqual(list(found.items()),
                             [("event", "go"), ("name", name), ("value", value), ("checked", checked)], number)

    def test_what_is_shown_now(self):
        controls = settled(self.PAGE)
        controls.show(3, "typed")
        controls.show(4, False)
        self.assertEqual(controls.record_of(self.PAGE, 3, "input", {})["value"], "typed")
        self.assertEqual(controls.record_of(self.PAGE, 4, "input", {})["checked"], False)
        self.assertIsNone(controls.record_of(self.PAGE, 4, "input", {})["value"])
        self.assertIsNone(Controls().record_of(self.PAGE, 3, "input", {})["value"])
        # They are settled for another document.
        found = settled(page("<p></p><p></p>" + '<input kind="box"></input><area></area>')).record_of(self.PAGE, 3, "go", {})
        self.assertEqual((found["value"], found["checked"]), (None, None))

    def test_details(self):
        details = {"key": "a", "name": "no", "z": [1], "event": "no", "value": 5, "checked": True, "a": None}
        found = self.record(3, details, "keydown")
        self.assertEqual(list(found.items()), [("event", "keydown"), ("name", "f"), ("value", "v"), ("checked", None),
                                               ("key", "a"), ("z", [1]), ("a", None)])
        self.assertEqual(list(self.record(4, {"checked": False})), ["event", "name", "value", "checked"])

    def test_nothing_is_shared(self):
        details = {"list": [[1]], "record": {"a": [2]}, "act": ("act", 1, "h", [[3]])}
        kept = copy.deepcopy(details)
        controls = settled(self.PAGE)
        found = controls.record_of(self.PAGE, 3, "go", details)
        self.assertEqual(details, kept)
        self.assertFalse(shares(found, details))
        found["list"][0].append(9)
        found["record"].clear()
        found["act"][3][0].append(9)
        found["value"] = "changed"
        found.pop("event")
        self.assertEqual(details, kept)
        self.assertEqual(controls.shown(3), "v")
        self.assertEqual(list(controls.record_of(self.PAGE, 3, "go", details).values()),
                         ["go", "f", "v", None, *kept.values()])
