"""Values: what is the same, depth, size, text, copies ([18] to [21])."""

import copy
import unittest

from viewloom.values.plain import copied, depth, same, size, text_of

# Values no two of which are the same.
DIFFERENT = [
    None, True, False, 0, 1, -1, 10 ** 30, -10 ** 30, "", "0", "1", "a", "true", "null", [], [[]], [None], [0], [1],
    [True],
    [False], ["a"], [1, 2], [2, 1], [1, 2, 3], {}, {"a": 1}, {"a": True}, {"a": None}, {"b": 1}, {"a": 1, "b": 2},
    {"a": 2, "b": 1},
    {"a": {}}, {"a": []}, ("act", 1, "h", []), ("act", 2, "h", []), ("act", 1, "g", []), ("act", 1, "h", [1]),
    ("act", 1, "h", [True]),
    ("act", 1, "h", [[]]), ["act", 1, "h", []], [("act", 1, "h", [])], [[1], [2]], [[1, 2]],
]
# Values with their depth and size.
MEASURES = [
    (None, 1, 1), (True, 1, 1), (False, 1, 1), (0, 1, 1), (-10 ** 30, 1, 1), ("", 1, 1), ("abc", 1, 4), ("a\n", 1, 3),
    ([], 1, 1), ({}, 1, 1),
    ([1], 2, 2), (["ab", None], 2, 5), ([[]], 2, 2), ([[1]], 3, 3), ([1, [2, [3]], []], 4, 7), ({"a": 1}, 2, 3),
    ({"abc": "de"}, 2, 7),
    ({"a": {}, "bc": {"d": []}}, 3, 8), ({"": 1}, 2, 2), (("act", 1, "h", []), 1, 2),
    (("act", 12345, "press", []), 1, 6), (("act", 1, "h", [1, "ab"]), 2, 6),
    (("act", 1, "h", [[1]]), 3, 4), ([("act", 1, "go", [])], 2, 4), ({"a": ("act", 1, "go", [None])}, 3, 6),
    ([{}, [[]], 1], 3, 5),
]
TEXTS = [
    (None, ""), (True, "true"), (False, "false"), (0, "0"), (7, "7"), (-7, "-7"), (10 ** 30, "1" + "0" * 30),
    (-10 ** 30, "-1" + "0" * 30),
    ("", ""), ("a b\n", "a b\n"), ("null", "null"), ([], None), ([1], None), ({}, None), ({"a": "b"}, None),
    (("act", 1, "h", []), None),
]


def parts(value):
    """Returns all lists and dicts in a value."""
    found = [value] if isinstance(value, (list, dict)) else []
    inner = value.values() if isinstance(value, dict) else value[3:] if isinstance(value, tuple) else value
    if isinstance(value, (list, dict, tuple)):
        for member in inner:
            found.extend(parts(member))
    return found


class Values(unittest.TestCase):
    def test_same(self):
        for index, a in enumerate(DIFFERENT):
            for other, b in enumerate(DIFFERENT):
                self.assertIs(same(a, b), index == other, (a, b))
            self.assertIs(same(a, copy.deepcopy(a)), True)
            self.assertIs(same([a], [copy.deepcopy(a)]), True)
            self.assertIs(same({"x": a}, {"x": copy.deepcopy(a)}), True)
            self.assertIs(same(("act", 1, "h", [a]), ("act", 1, "h", [copy.deepcopy(a)])), True)

    def test_differences_within(self):
        for a, b in zip(DIFFERENT, DIFFERENT[1:]):
            for make in (lambda value: [1, value], lambda value: {"x": 1, "y": value},
                         lambda value: ("act", 1, "h", [value]),
                         lambda value: [{"x": [value]}]):
                self.assertIs(same(make(a), make(b)), False, (a, b))

    def test_order_of_fields_has_no_meaning(self):
        self.assertTrue(same({"a": 1, "b": [2]}, {"b": [2], "a": 1}))
        self.assertTrue(same([{"a": {"c": 1, "d": 2}}], [{"a": {"d": 2, "c": 1}}]))
        self.assertFalse(same({"a": 1, "b": 2}, {"b": 1, "a": 2}))

    def test_truth_is_no_number(self):
        for a, b in [(True, 1), (False, 0), ([True], [1]), ({"a": False}, {"a": 0}),
                     (("act", 1, "h", [True]), ("act", 1, "h", [1]))]:
            self.assertFalse(same(a, b))
            self.assertFalse(same(b, a))

    def test_depth_and_size(self):
        for value, deep, large in MEASURES:
            self.assertEqual((depth(value), size(value)), (deep, large), value)
            self.assertEqual((depth([value]), size([value])), (deep + 1, large + 1), value)
            self.assertEqual((depth({"xy": value}), size({"xy": value})), (deep + 1, large + 3), value)
            act = ("act", 1, "run", [value, value])
            self.assertEqual((depth(act), size(act)), (deep + 1, 2 * large + 4), value)

    def test_deep_values(self):
        value = 1
        for _ in range(40):
            value = [value]
        self.assertEqual((depth(value), size(value)), (41, 41))
        self.assertTrue(same(value, copied(value)))

    def test_text_of(self):
        for value, text in TEXTS:
            self.assertEqual(repr(text_of(value)), repr(text), value)

    def test_copied(self):
        for value in DIFFERENT + [row[0] for row in MEASURES]:
            kept = copy.deepcopy(value)
            other = copied(value)
            self.assertEqual(repr(other), repr(kept))
            self.assertTrue(same(value, other))
            for mine in parts(value):
                self.assertFalse(any(mine is theirs for theirs in parts(other)))

    def test_parts_of_a_copy_are_different(self):
        shared = [1]
        other = copied([shared, shared, {"a": shared}])
        other[0].append(2)
        self.assertEqual(other, [[1, 2], [1], {"a": [1]}])
        self.assertEqual(shared, [1])

    def test_nothing_is_changed(self):
        for value in DIFFERENT:
            kept = copy.deepcopy(value)
            same(value, value)
            size(value)
            depth(value)
            text_of(value)
            self.assertEqual(repr(value), repr(kept))
