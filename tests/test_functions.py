"""The functions of the language ([24])."""

import copy
import unittest

from tests.helpers import fault_of
from tests.test_values import parts
from viewloom.checks.checking import Checker
from viewloom.values.evaluating import evaluate
from viewloom.values.functions import call_function

MOST = 10 ** 30
ACT = ("act", 1, "h", [])
# One value of each kind.
KINDS = {"none": None, "truth": True, "number": 2, "text": "b", "list": [1], "record": {"b": 1}, "act": ACT}
ROWS = [
    ("length", [[]], 0), ("length", [[1, [2, 3]]], 2), ("length", [""], 0), ("length", ["a\nb"], 3),
    ("length", [{}], 0), ("length", [{"ab": 1, "c": 2}], 2),
    ("text", [None], ""), ("text", [True], "true"), ("text", [False], "false"), ("text", [0], "0"),
    ("text", [-5], "-5"), ("text", [MOST], "1" + "0" * 30), ("text", ["a b"], "a b"), ("text", [""], ""),
    ("number", ["0"], 0), ("number", ["7"], 7), ("number", ["-7"], -7), ("number", ["10"], 10),
    ("number", ["1" + "0" * 30], MOST), ("number", ["-1" + "0" * 30], -MOST),
    ("number", ["9" * 30], MOST - 1), ("number", ["1" + "0" * 29 + "1"], None),
    ("number", ["-1" + "0" * 29 + "1"], None), ("number", ["9" * 31], None), ("number", ["1" * 5000], None),
    ("number", ["-" + "1" * 5000], None), ("number", [""], None), ("number", ["-"], None),
    ("number", ["-0"], None), ("number", ["00"], None), ("number", ["07"], None), ("number", ["-07"], None),
    ("number", ["+7"], None), ("number", [" 7"], None), ("number", ["7 "], None), ("number", ["7\n"], None),
    ("number", ["1_0"], None), ("number", ["--7"], None), ("number", ["7-"], None), ("number", ["1.0"], None),
    ("number", ["a"], None), ("number", ["0x1"], None), ("number", ["- 7"], None), ("number", ["true"], None),
    ("slice", [[1, 2, 3], 0, 3], [1, 2, 3]), ("slice", [[1, 2, 3], 1, 2], [2]), ("slice", [[1, 2, 3], 1, 1], []),
    ("slice", [[1, 2, 3], 2, 1], []), ("slice", [[1, 2, 3], -2, 2], [1, 2]),
    ("slice", [[1, 2, 3], 0, -1], []), ("slice", [[1, 2, 3], -9, -1], []), ("slice", [[1, 2, 3], 1, 99], [2, 3]),
    ("slice", [[1, 2, 3], 3, 9], []), ("slice", [[1, 2, 3], MOST, MOST], []),
    ("slice", [[1, 2, 3], -MOST, MOST], [1, 2, 3]),
    ("slice", [[], 0, 1], []), ("slice", ["abc", 1, 3], "bc"), ("slice", ["abc", -1, 2], "ab"),
    ("slice", ["abc", 0, -1], ""), ("slice", ["abc", 2, 99], "c"), ("slice", ["abc", 3, 4], ""),
    ("slice", ["", 0, 5], ""), ("slice", ["abc", 2, 1], ""),
    ("find", [[1, 2, 1], 1], 0), ("find", [[1, 2, 1], 2], 1), ("find", [[1, 2], 3], -1), ("find", [[], None], -1),
    ("find", [[1, True], True], 1), ("find", [[0, False], False], 1), ("find", [[True, 1], 1], 1),
    ("find", [[[1], {"a": 1, "b": 2}], {"b": 2, "a": 1}], 1),
    ("find", [[ACT, ("act", 1, "h", [1])], ("act", 1, "h", [1])], 1), ("find", [["ab"], "a"], -1),
    ("find", [[None], None], 0), ("find", [[[]], []], 0),
    ("find", ["abcabc", "bc"], 1), ("find", ["abc", ""], 0), ("find", ["", ""], 0), ("find", ["", "a"], -1),
    ("find", ["abc", "abcd"], -1), ("find", ["abc", "c"], 2), ("find", ["aab", "ab"], 1), ("find", ["a\nb", "\n"], 1),
    ("get", [None, 0, 5], 5), ("get", [None, "a", [1]], [1]), ("get", [None, None, None], None),
    ("get", [None, ACT, 1], 1), ("get", [[1, 2], 0, 5], 1), ("get", [[1, 2], 1, 5], 2), ("get", [[1, 2], 2, 5], 5),
    ("get", [[1, 2], -1, 5], 5),
    ("get", [[], 0, 5], 5), ("get", [[None], 0, 5], None), ("get", ["abc", 2, 5], "c"), ("get", ["abc", 3, 5], 5),
    ("get", ["abc", -1, 5], 5), ("get", ["", 0, None], None), ("get", [{"a": 1}, "a", 5], 1),
    ("get", [{"a": 1}, "b", 5], 5),
    ("get", [{"a": None}, "a", 5], None), ("get", [{}, "", ACT], ACT), ("get", [[1], MOST, 5], 5),
    ("join", [[], ", "], ""), ("join", [["a"], ", "], "a"), ("join", [["a", "b", "c"], ", "], "a, b, c"),
    ("join", [[1, None, True, "x", False, -2], "-"], "1--true-x-false--2"), ("join", [["", ""], ""], ""),
    ("join", [["", ""], "\n"], "\n"),
    ("join", [[None], "-"], ""),
    ("split", ["a,b,c", ","], ["a", "b", "c"]), ("split", ["", ","], [""]), ("split", ["abc", ","], ["abc"]),
    ("split", [",", ","], ["", ""]), ("split", [",a,,b,", ","], ["", "a", "", "b", ""]),
    ("split", ["aaa", "aa"], ["", "a"]),
    ("split", ["aaaa", "aa"], ["", "", ""]), ("split", ["ababa", "aba"], ["", "ba"]),
    ("split", ["a b  c", " "], ["a", "b", "", "c"]), ("split", ["abc", "abc"], ["", ""]),
    ("split", ["abc", "abcd"], ["abc"]), ("split", ["a\nb", "\n"], ["a", "b"]),
    ("keys", [{}], []), ("keys", [{"b": 1, "a": 2, "B": 3, "aa": 4, "_": 5}], ["B", "_", "a", "aa", "b"]),
    ("keys", [{"a10": 1, "a9": 2}], ["a10", "a9"]),
    ("sorted", [[]], []), ("sorted", [[3, -1, 2, 2, 0]], [-1, 0, 2, 2, 3]),
    ("sorted", [["b", "a", "B", "", "aa"]], ["", "B", "a", "aa", "b"]), ("sorted", [["10", "9"]], ["10", "9"]),
    ("sorted", [[5]], [5]), ("sorted", [["x"]], ["x"]),
    ("sorted", [[MOST, -MOST]], [-MOST, MOST]),
    ("range", [0], []), ("range", [1], [0]), ("range", [4], [0, 1, 2, 3]), ("range", [200], list(range(200))),
    ("range", [199], list(range(199))),
    ("rest", [7, 2], 1), ("rest", [-7, 2], -1), ("rest", [7, -2], 1), ("rest", [-7, -2], -1), ("rest", [6, 2], 0),
    ("rest", [-6, 2], 0), ("rest", [0, 5], 0), ("rest", [0, -5], 0), ("rest", [1, 5], 1), ("rest", [-1, 5], -1),
    ("rest", [5, 5], 0),
    ("rest", [MOST, MOST - 1], 1), ("rest", [-MOST, 7], -(MOST % 7)),
    ("min", [1, 2], 1), ("min", [2, 1], 1), ("min", [-1, 1], -1), ("min", [3, 3], 3), ("min", [MOST, -MOST], -MOST),
    ("max", [1, 2], 2), ("max", [2, 1], 2), ("max", [-1, 1], 1), ("max", [3, 3], 3), ("max", [MOST, -MOST], MOST),
]
# For each function right arguments, the kinds that each of them can have, and the fault of others.
PLACES = [
    ("length", [[1]], 0, "list text record", "not a list, text or record"),
    ("text", [1], 0, "none truth number text", "not a text"), ("number", ["1"], 0, "text", "not a text"),
    ("slice", ["abc", 0, 1], 0, "list text", "not a list or text"),
    ("slice", ["abc", 0, 1], 1, "number", "not a number"), ("slice", ["abc", 0, 1], 2, "number", "not a number"),
    ("find", [[1], "a"], 0, "list text", "not a list or text"), ("find", ["abc", "a"], 1, "text", "not a text"),
    ("find", [[1], 1], 1, "none truth number text list record act", ""),
    ("get", [[1], 0, 1], 0, "none list text", "not a place"),
    ("get", [{"a": 1}, "a", 1], 0, "none record", "not a place"), ("get", [[1], 0, 1], 1, "number", "not a place"),
    ("get", ["a", 0, 1], 1, "number", "not a place"),
    ("get", [{"a": 1}, "a", 1], 1, "text", "not a place"),
    ("get", [[1], 0, 1], 2, "none truth number text list record act", ""),
    ("get", [None, 0, 1], 1, "none truth number text list record act", ""),
    ("join", [["a"], ""], 0, "list", "not a list"), ("join", [["a"], ""], 1, "text", "not a text"),
    ("split", ["a", "b"], 0, "text", "not a text"), ("split", ["a", "b"], 1, "text", "not a text"),
    ("keys", [{}], 0, "record", "not a record"), ("sorted", [[1]], 0, "list", "not a list"),
    ("range", [1], 0, "number", "not a number"),
    ("rest", [1, 1], 0, "number", "not a number"), ("rest", [1, 1], 1, "number", "not a number"),
    ("min", [1, 1], 0, "number", "not a number"), ("min", [1, 1], 1, "number", "not a number"),
    ("max", [1, 1], 0, "number", "not a number"), ("max", [1, 1], 1, "number", "not a number"),
]
FAULTS = [
    ("join", [["a", [], "b"], ""], "not a text"), ("join", [[{}], ""], "not a text"),
    ("join", [[ACT], ""], "not a text"), ("split", ["abc", ""], "empty text"), ("split", ["", ""], "empty text"),
    ("sorted", [[1, "a"]], "not to be compared"), ("sorted", [[True]], "not to be compared"),
    ("sorted", [[1, True]], "not to be compared"), ("sorted", [[None]], "not to be compared"),
    ("sorted", [[[]]], "not to be compared"),
    ("sorted", [[{}]], "not to be compared"), ("sorted", [["a", None]], "not to be compared"),
    ("sorted", [[ACT]], "not to be compared"), ("sorted", [[1] * 300 + ["a"]], "not to be compared"),
    ("range", [-1], "less than 0"), ("range", [-MOST], "less than 0"), ("range", [201], "too large"),
    ("range", [MOST], "too large"), ("rest", [1, 0], "division by 0"), ("rest", [0, 0], "division by 0"),
    ("rest", ["a", 0], "not a number"),
    # The kinds are looked at in the order of the arguments, and ahead of everything else.
    ("slice", [1, "a", "b"], "not a list or text"), ("slice", [[], "a", None], "not a number"),
    ("find", [None, 1], "not a list or text"), ("join", ["a", 1], "not a list"), ("join", [[[]], 1], "not a text"),
    ("split", [1, ""], "not a text"),
    ("split", [[], ""], "not a text"), ("get", [1, 1, 1], "not a place"), ("get", [True, 0, 1], "not a place"),
    ("get", [[1], True, 1], "not a place"), ("get", [[1], "a", 1], "not a place"),
    ("get", [{"a": 1}, 0, 1], "not a place"),
    ("get", ["a", "a", 1], "not a place"), ("get", [ACT, 0, 1], "not a place"),
]


class Functions(unittest.TestCase):
    def check(self, name, arguments, expected):
        """Checks what a function returns or raises, called by itself and in an expression."""
        given = copy.deepcopy(arguments)
        found = fault_of(call_function, name, given)
        self.assertEqual(repr(found), repr(expected), (name, arguments))
        self.assertEqual(repr(given), repr(arguments))
        names = [f"x{index}" for index in range(len(arguments))]
        tree = ("function", name, [("name", held) for held in names])
        environment = dict(zip(names, given))
        self.assertEqual(repr(fault_of(evaluate, tree, environment, 1)), repr(expected), (name, arguments))
        self.assertEqual(repr(list(environment.values())), repr(arguments))
        if isinstance(found, tuple):
            for part in parts(found[1]):
                self.assertFalse(any(part is other for other in parts(given)))
                part.clear()
            self.assertEqual(repr(given), repr(arguments))

    def test_values(self):
        for name, arguments, expected in ROWS:
            self.check(name, arguments, ("value", expected))

    def test_faults(self):
        for name, arguments, message in FAULTS:
            self.check(name, arguments, message)

    def test_each_kind_at_each_place(self):
        for name, arguments, place, kinds, message in PLACES:
            for kind, value in KINDS.items():
                given = [*arguments[:place], value, *arguments[place + 1:]]
                if kind in kinds.split():
                    self.assertEqual(fault_of(call_function, name, given)[0], "value", (name, given))
                else:
                    self.check(name, given, message)

    def test_the_first_wrong_kind_counts(self):
        for name, arguments, place, kinds, message in PLACES:
            for kind, value in KINDS.items():
                if kind not in kinds.split() and name not in ("find", "get"):
                    given = [*arguments[:place], value, *[ACT] * (len(arguments) - place - 1)]
                    self.check(name, given, message)

    def test_each_function_has_rows(self):
        for name, count in Checker.FUNCTIONS:
            self.assertTrue(any(row[0] == name for row in ROWS))
            self.assertTrue(all(len(row[1]) == count for row in ROWS + FAULTS + PLACES if row[0] == name), name)

    def test_numbers_are_read_back(self):
        for number in [*range(-1200, 1200, 7), MOST, -MOST, MOST - 1, 1 - MOST, 10 ** 15]:
            self.assertEqual(call_function("number", [call_function("text", [number])]), number)

    def test_rest_and_quotient(self):
        tree = ("binary", "+", ("binary", "*", ("name", "b"), ("binary", "/", ("name", "a"), ("name", "b"))),
                ("function", "rest", [("name", "a"), ("name", "b")]))
        for a in range(-20, 21):
            for b in [*range(-7, 0), *range(1, 8)]:
                self.assertEqual(evaluate(tree, {"a": a, "b": b}, 1), a)
                self.assertEqual(call_function("rest", [a, b]), abs(a) % abs(b) * (-1 if a < 0 else 1))
