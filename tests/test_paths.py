"""Paths, what is disabled, attributes ([57], [60]), hearers, lanes and what can be prevented ([58], [59])."""

import copy
import random
import unittest

from tests.documents import DocumentMaker, numbers_in, tower
from tests.events import page
from tests.helpers import shares
from viewloom.documents.nodes import find_node
from viewloom.events.hearing import can_prevent, hearers, lane_of
from viewloom.events.paths import attribute_of, is_disabled, path_of

PAGE = page('<main id="m"><p>deep<b><i>x</i></b></p>flat</main>top<a disabled=""><b a="1" z="2">in</b></a><hr></hr>')


def path_in(document, number, around=()):
    """The path, found in another way."""
    for node in document:
        inner = around if node[0] == "text" else (node[1], *around)
        if node[1] == number:
            return list(inner)
        if node[0] == "element":
            found = path_in(node[4], number, inner)
            if found:
                return found
    return []


class Paths(unittest.TestCase):
    def test_path(self):
        # main 1: p 2 (deep 3, b 4 (i 5 (x 6))), flat 7; top 8; a 9: b 10 (in 11); hr 12
        for number, path in [(1, [1]), (2, [2, 1]), (3, [2, 1]), (4, [4, 2, 1]), (5, [5, 4, 2, 1]), (6, [5, 4, 2, 1]),
                             (7, [1]), (8, []), (9, [9]), (10, [10, 9]), (11, [10, 9]), (12, [12])]:
            self.assertEqual(path_of(PAGE, number), path, number)
        for number in (0, -1, 13, 10 ** 30):
            self.assertEqual(path_of(PAGE, number), [])
        self.assertEqual(path_of((), 1), [])

    def test_path_on_forty_levels(self):
        document = (tower(39, inner=(("text", 77, "x"),)),)
        self.assertEqual(path_of(document, 77), list(range(39, 0, -1)))
        self.assertEqual(path_of(document, 39), list(range(39, 0, -1)))
        self.assertEqual(path_of(document, 1), [1])

    def test_paths_by_chance(self):
        for seed in range(100):
            document = DocumentMaker(seed).document(range(1, 25))
            for number in numbers_in(document) + [30]:
                self.assertEqual(path_of(document, number), path_in(document, number))

    def test_the_path_is_the_callers(self):
        path_of(PAGE, 6).clear()
        self.assertEqual(path_of(PAGE, 6), [5, 4, 2, 1])

    def test_attribute(self):
        for number, name, text in [(1, "id", "m"), (1, "x", None), (9, "disabled", ""), (10, "a", "1"), (10, "z", "2"),
                                   (10, "disabled", None), (11, "a", None), (8, "id", None), (12, "id", None),
                                   (13, "id", None), (0, "id", None), (2, "", None)]:
            self.assertEqual(attribute_of(PAGE, number, name), text, (number, name))
        self.assertIs(attribute_of((), 1, "id"), None)

    def test_disabled(self):
        for number in range(1, 13):
            self.assertIs(is_disabled(PAGE, number), number in (9, 10, 11), number)
        for number in (0, -1, 13):
            self.assertIs(is_disabled(PAGE, number), True)
        self.assertIs(is_disabled((), 1), True)
        self.assertIs(is_disabled((("text", 4, "x"),), 4), False)

    def test_the_text_of_disabled_has_no_meaning(self):
        for text in ("", "true", "false", "no"):
            document = page(f'<p><a disabled="{text}">x</a></p><a able="">y</a>')
            self.assertEqual([is_disabled(document, number) for number in range(1, 6)],
                             [False, True, True, False, False])

    def test_options_of_a_disabled_select(self):
        document = page('<select disabled="x"><p><option value="a">A</option></p></select>'
                        '<select><option disabled="">B</option><option>C</option></select>')
        self.assertEqual([is_disabled(document, number) for number in range(1, 10)],
                         [True, True, True, True, False, True, True, False, False])


class Hearing(unittest.TestCase):
    ACTS = {
        1: [("click", ("act", 1, "up1", [])), ("click_down", ("act", 1, "down1", [])), ("key", ("act", 1, "k", []))],
        2: [("click_down", ("act", 2, "down2", [[1]])), ("click", ("act", 2, "up2", [])), ("click", ("act", 2, "up2b", [])),
            ("click_down", ("act", 2, "down2b", []))],
        3: [("key", ("act", 3, "k3", []))],
        4: [],
        9: [("click", ("act", 9, "other", [])), ("click_down", ("act", 9, "other", []))],
    }

    def names(self, path, event, acts=None):
        return [act[2] for act in hearers(self.ACTS if acts is None else acts, path, event)]

    def test_order(self):
        self.assertEqual(self.names([2, 1], "click"), ["down1", "down2", "down2b", "up2", "up2b", "up1"])
        self.assertEqual(self.names([1, 2], "click"), ["down2", "down2b", "down1", "up1", "up2", "up2b"])
        self.assertEqual(self.names([5, 3, 2, 4, 1, 7], "click"), ["down1", "down2", "down2b", "up2", "up2b", "up1"])
        self.assertEqual(self.names([3, 2, 1], "key"), ["k3", "k"])
        self.assertEqual(self.names([3], "click"), [])
        self.assertEqual(self.names([], "click"), [])
        self.assertEqual(self.names([5, 6], "click"), [])
        self.assertEqual(self.names([2, 1], "click", {}), [])
        self.assertEqual(self.names([2, 1], "clic"), [])
        self.assertEqual(self.names([2, 1], ""), [])

    def test_whole_acts(self):
        self.assertEqual(hearers(self.ACTS, [2], "click")[0], ("act", 2, "down2", [[1]]))

    def test_words_that_end_in_down(self):
        # An event that is called so is heard on its way up by the acts for it.
        self.assertEqual(self.names([2, 1], "click_down"), ["down2", "down2b", "down1"])
        acts = {1: [("a_down_down", ("act", 1, "far", [])), ("a_down", ("act", 1, "near", [])),
                    ("a", ("act", 1, "no", []))],
                2: [("a_down_down", ("act", 2, "far", [])), ("a_down", ("act", 2, "near", []))]}
        self.assertEqual([act[1:3] for act in hearers(acts, [2, 1], "a_down")],
                         [(1, "far"), (2, "far"), (2, "near"), (1, "near")])
        self.assertEqual([act[1:3] for act in hearers(acts, [2, 1], "a")], [(1, "near"), (2, "near"), (1, "no")])
        self.assertEqual([act[1:3] for act in hearers(acts, [2, 1], "a_down_down")], [(2, "far"), (1, "far")])
        self.assertEqual(self.names([1], "down", {1: [("_down", ("act", 1, "x", [])), ("down", ("act", 1, "y", []))]}),
                         ["y"])

    def test_nothing_is_shared(self):
        acts = copy.deepcopy(self.ACTS)
        path = [2, 1]
        found = hearers(acts, path, "click")
        self.assertFalse(shares(found, acts))
        found[1][3][0].append(5)
        found.clear()
        self.assertEqual(acts, self.ACTS)
        self.assertEqual(path, [2, 1])

    def test_hearers_by_chance(self):
        for seed in range(200):
            chance = random.Random(seed)
            acts = {number: [(chance.choice(["e", "e_down", "f"]), ("act", number, str(index), []))
                             for index in range(chance.randint(0, 4))] for number in chance.sample(range(9), 5)}
            path = chance.sample(range(9), chance.randint(0, 9))
            wanted = []
            for way, word in ((path[::-1], "e_down"), (path, "e")):
                for number in way:
                    wanted += [act for event, act in acts.get(number, []) if event == word]
            self.assertEqual(hearers(acts, path, "e"), wanted)

    def test_lanes(self):
        for event in ("click", "input", "change", "keydown", "keyup"):
            self.assertEqual(lane_of(event), 0)
        for event in ("key", "press", "click_down", "keypress", "", "focus", "sync", "Click", "scroll"):
            self.assertEqual(lane_of(event), 1)

    def test_what_can_be_prevented(self):
        for event in ("input", "change"):
            self.assertIs(can_prevent(event), False)
        for event in ("click", "keydown", "keyup", "focus", "", "input_down", "inputs", "Change"):
            self.assertIs(can_prevent(event), True)

    def test_acts_of_a_document(self):
        document = page("<a><b>x</b></a>")
        acts = {1: [("go", ("act", 1, "a", []))], 2: [("go", ("act", 1, "b", []))], 3: [("go", ("act", 1, "text", []))]}
        self.assertEqual(self.names(path_of(document, 3), "go", acts), ["b", "a"])
        self.assertIsNotNone(find_node(document, 3))
