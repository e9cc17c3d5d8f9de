"""The values and faults of expressions ([22])."""

import copy
import unittest

from tests.helpers import expression, fault_of
from tests.random_programs import Maker
from tests.test_values import parts
from viewloom.checks.checking import is_sound
from viewloom.checks.names import free_names
from viewloom.errors import Fault
from viewloom.values.evaluating import evaluate
from viewloom.values.plain import same, text_of

ACT = ("act", 3, "go", [1])
ENVIRONMENT = {
    "nil": None, "yes": True, "no": False, "n": 7, "m": -3, "t": "abc", "empty": "", "l": [1, "two", [3]], "none": [],
    "r": {"x": 1, "y": {"z": [2]}, "A": None}, "bare": {}, "act": ACT, "truths": [True, False, True], "five": "5",
}
# One value of each kind, by a name of the environment.
KINDS = {
    "nil": "none", "yes": "truth", "no": "truth", "n": "number", "t": "text", "l": "list", "r": "record", "act": "act",
}
ROWS = [
    # Words, numbers, texts and names.
    ("null", None), ("true", True), ("false", False), ("0", 0), (str(10 ** 30), 10 ** 30), ('"a\\n"', "a\n"), ("n", 7),
    ("r", ENVIRONMENT["r"]),
    ("act", ACT),
    # Fields and items.
    ("r.x", 1), ("r.y.z", [2]), ("r.A", None), ("{a: n}.a", 7), ("l[0]", 1), ("l[2][0]", 3), ("t[0]", "a"),
    ("t[2]", "c"), ('r["x"]', 1),
    ('r["y"]["z"][0]', 2), ("l[n - 7]", 1), ('{a: 1}["a"]', 1), ("[1, 2][1]", 2), ('"xy"[1]', "y"),
    # Prefix signs.
    ("!yes", False), ("!no", True), ("!!yes", True), ("-n", -7), ("-m", 3), ("--n", 7), ("-0", 0),
    # And, or, choices.
    ("yes && no", False), ("yes && yes", True), ("no && yes", False), ("no || yes", True), ("no || no", False),
    ("yes || no", True),
    ("yes ? 1 : 2", 1), ("no ? 1 : 2", 2), ("no ? 1 : yes ? 2 : 3", 2), ("yes && no || yes", True),
    # Equality.
    ("1 == 1", True), ("1 == 2", False), ("1 != 2", True), ("1 != 1", False), ("yes == 1", False), ("no == 0", False),
    ("no != 0", True),
    ("null == nil", True), ("[1, [2]] == [1, [2]]", True), ("[1] == [1, 2]", False),
    ("{a: 1, b: 2} == {b: 2, a: 1}", True), ("{a: 1} == {b: 1}", False),
    ('"" == null', False), ("act == act", True), ("do go(1) == act", False), ("do go(1) == do go(1)", True),
    ("do go(1) == do go(2)", False),
    # Order.
    ("1 < 2", True), ("2 < 1", False), ("1 < 1", False), ("1 <= 1", True), ("2 <= 1", False), ("2 > 1", True),
    ("1 > 1", False), ("1 >= 1", True),
    ("1 >= 2", False), ("m < n", True), ("-10 < -9", True), ('"a" < "b"', True), ('"a" < "B"', False),
    ('"a" < "ab"', True), ('"" < "a"', True), ('"10" < "9"', True),
    ('"b" >= "a"', True), ('"a" <= "a"', True), ('"a" > "a"', False),
    # Sums.
    ("1 + 2", 3), ("n + m", 4), ("[1] + [2, 3]", [1, 2, 3]), ("none + none", []), ('"a" + "b"', "ab"),
    ('"a" + 1', "a1"), ('1 + "a"', "1a"), ('"a" + -1', "a-1"),
    ('null + "a"', "a"), ('"a" + null', "a"), ('"" + yes', "true"), ('no + ""', "false"), ('"" + null', ""),
    ("1 + 2 + \"a\"", "3a"), ('"a" + 1 + 2', "a12"),
    # Products and quotients.
    ("7 - 3", 4), ("3 - 7", -4), ("7 * -3", -21), ("0 * 5", 0), ("7 / 2", 3), ("-7 / 2", -3), ("7 / -2", -3),
    ("-7 / -2", 3), ("6 / 2", 3), ("-6 / 2", -3),
    ("0 / 5", 0), ("0 / -5", 0), ("1 / 2", 0), ("-1 / 2", 0), ("1 / -2", 0), ("n / m", -2), ("7 - 2 - 1", 4),
    ("12 / 3 / 2", 2), ("2 * 7 / 4", 3),
    (f"{10 ** 30} / 7", 10 ** 30 // 7), (f"-{10 ** 30} / 7", -(10 ** 30 // 7)),
    # Lists, records, gatherings, functions, acts.
    ("[]", []), ("[n, [t], {a: l}]", [7, ["abc"], {"a": [1, "two", [3]]}]), ("{}", {}),
    ("{b: n, a: {c: none}}", {"b": 7, "a": {"c": []}}),
    ("[x for x in l]", [1, "two", [3]]), ("[x * 2 for x in [1, 2, 3]]", [2, 4, 6]),
    ("[x for x in [1, 2, 3] if x != 2]", [1, 3]), ("[x for x in none if nil]", []),
    ("[1 for x in l if no]", []), ("[n for x in [1, 2]]", [7, 7]), ("[[n, y] for y in [1, 2]]", [[7, 1], [7, 2]]),
    ("[[x + y for x in [1, 2]] for y in [10, 20]]", [[11, 12], [21, 22]]), ("[x for x in truths if x]", [True, True]),
    ("[x for x in [y for y in [3, 4] if y > 3]]", [4]),
    ("length(l)", 3), ("max(n, length(t))", 7), ("do go()", ("act", 5, "go", [])),
    ("do go(n, [t])", ("act", 5, "go", [7, ["abc"]])),
    ("[do go(x) for x in [1, 2]]", [("act", 5, "go", [1]), ("act", 5, "go", [2])]),
    ("{a: do h(act)}.a", ("act", 5, "h", [ACT])),
]
FAULTS = [
    ("l.x", "not a record"), ("t.length", "not a record"), ("nil.x", "not a record"), ("act.name", "not a record"),
    ("r.z", "no field z"), ("r.y.x", "no field x"),
    ("bare.x", "no field x"), ("r.a", "no field a"), ("r.x.y", "not a record"),
    ("l[3]", "nothing there"), ("l[-1]", "nothing there"), ("t[3]", "nothing there"), ("t[-1]", "nothing there"),
    ("none[0]", "nothing there"), ("empty[0]", "nothing there"),
    ('r["z"]', "nothing there"), ('bare[""]', "nothing there"), (f"l[{10 ** 30}]", "nothing there"),
    ("l[-0 - 1]", "nothing there"),
    ("1 / 0", "division by 0"), ("0 / 0", "division by 0"), ("n / (m + 3)", "division by 0"),
    ("t / 0", "not a number"), ("0 / t", "not a number"),
    ("[x for x in t]", "not a list"), ("[x for x in nil if nil]", "not a list"), ("[x for x in r]", "not a list"),
    ("[x for x in l if x]", "not true or false"),
    ("[x.a for x in l]", "not a record"), ("[x for x in truths if !x.y]", "not a record"),
    ("[1 for x in [1] if null]", "not true or false"),
]


def value(source, environment=None, owner=5):
    return fault_of(evaluate, expression(source), ENVIRONMENT if environment is None else environment, owner)


class Expressions(unittest.TestCase):
    def test_values(self):
        for source, expected in ROWS:
            self.assertEqual(repr(value(source)), repr(("value", expected)), source)

    def test_faults(self):
        for source, message in FAULTS:
            self.assertEqual(value(source), message, source)

    def test_the_fault_has_its_message(self):
        with self.assertRaises(Fault) as caught:
            evaluate(expression("-t"), ENVIRONMENT, 1)
        self.assertEqual(caught.exception.message, "not a number")

    def test_one_operand_of_each_kind(self):
        for name, kind in KINDS.items():
            for source, kinds, message in [
                ("!@", ["truth"], "not true or false"), ("-@", ["number"], "not a number"),
                ("@ ? 1 : 2", ["truth"], "not true or false"),
                ("@ && yes", ["truth"], "not true or false"), ("@ || no", ["truth"], "not true or false"),
                ("yes && @", ["truth"], "not true or false"),
                ("no || @", ["truth"], "not true or false"), ("[1 for x in @]", ["list"], "not a list"),
                ("[1 for x in l if @]", ["truth"], "not true or false"),
                ("@.x", ["record"], "not a record"),
            ]:
                found = value(source.replace("@", name))
                if kind in kinds:
                    self.assertEqual(found[0], "value", (source, name))
                else:
                    self.assertEqual(found, message, (source, name))

    def test_two_operands_of_each_kind(self):
        for a, left in KINDS.items():
            for b, right in KINDS.items():
                x, y = ENVIRONMENT[a], ENVIRONMENT[b]
                self.assertEqual(value(f"{a} == {b}"), ("value", a == b))
                self.assertEqual(value(f"{a} != {b}"), ("value", a != b))
                for sign in ("<", "<=", ">", ">="):
                    expected = "not to be compared"
                    if left == right and left in ("number", "text"):
                        expected = ("value", sign in ("<=", ">="))
                    self.assertEqual(value(f"{a} {sign} {b}"), expected, (a, sign, b))
                for sign, number in (("-", 0), ("*", 49), ("/", 1)):
                    expected = ("value", number) if left == right == "number" else "not a number"
                    self.assertEqual(value(f"{a} {sign} {b}"), expected, (a, sign, b))
                self.assertEqual(value(f"{a} + {b}"), self.sum_of(left, right, x, y), (a, b))
                place = "not a place"
                if (left, right) in [("list", "number"), ("text", "number"), ("record", "text")]:
                    place = "nothing there"
                self.assertEqual(value(f"{a}[{b}]"), place, (a, b))

    def sum_of(self, left, right, x, y):
        if left == right and left in ("number", "list"):
            return ("value", x + y)
        if "text" in (left, right):
            if text_of(x) is None or text_of(y) is None:
                return "not a text"
            return ("value", text_of(x) + text_of(y))
        return "not to be added"

    def test_what_is_not_evaluated(self):
        for source, expected in [
            ("no && 1 / 0 == 1", False), ("yes || 1 / 0 == 1", True), ("yes ? 1 : 1 / 0", 1), ("no ? 1 / 0 : 2", 2),
            ("[1 / 0 for x in none]", []),
            ("[1 for x in none if 1 / 0]", []), ("[1 / 0 for x in l if no]", []), ("no && nil", False),
            ("yes || nil", True), ("no && yes && nil", False),
        ]:
            self.assertEqual(value(source), ("value", expected), source)

    def test_what_is_evaluated(self):
        for source in [
            "no || 1 / 0", "yes && 1 / 0", "yes ? 1 / 0 : 1", "no ? 1 : 1 / 0", "[1 / 0 for x in l]",
            "[1 for x in l if 1 / 0]", "[1 for x in 1 / 0]", "[1, 1 / 0]",
            "{a: 1 / 0}", "(1 / 0).a", "(1 / 0)[0]", "l[1 / 0]", "!(1 / 0)", "-(1 / 0)", "1 / 0 + 1", "1 + 1 / 0",
            "1 / 0 == 1", "text(1 / 0)", "do go(1 / 0)",
            "get(null, 0, 1 / 0)", "(1 / 0 ? 1 : 2)", "1 / 0 && yes", "1 / 0 || yes", "[[1 / 0]]", "get(1 / 0, 0, 0)",
            "0 * (1 / 0)",
        ]:
            self.assertEqual(value(source), "division by 0", source)

    def test_the_first_fault_from_the_left(self):
        # The parts have faults of their own, which are told from left to right and ahead of the kinds of the values.
        faults = [("(1 / 0)", "division by 0"), ("r.none", "no field none"), ("l[9]", "nothing there")]
        for source in ["@ + @", "@ - @", "@ * @", "@ / @", "@ == @", "@ != @", "@ < @", "@ <= @", "@[@]", "[@, @]",
                       "{a: @, b: @}", "do go(@, @)", "max(@, @)",
                       "find(@, @)", "@ && @", "@ || @", "@ ? @ : 1", "[[@], @]", "join(@, @)"]:
            for a, first in faults:
                for b, second in faults:
                    self.assertEqual(value(source.replace("@", a, 1).replace("@", b, 1)), first, source)
                    if "&&" not in source and "||" not in source and "?" not in source:
                        # A value of a wrong kind is looked at behind the other part.
                        self.assertEqual(value(source.replace("@", "act", 1).replace("@", b, 1)), second, source)
        for source, message in [
            ("nil && 1 / 0 == 1", "not true or false"), ("nil || 1 / 0 == 1", "not true or false"),
            ("nil ? 1 / 0 : 1 / 0", "not true or false"),
            ("[1 / 0 for x in nil]", "not a list"), ("[1 / 0 for x in l if nil]", "not true or false"),
            ("[1 / 0 for x in l if r.a]", "no field a"),
            ("[r.b for x in truths if x || 1 / 0]", "no field b"),
            ("[r.b for x in truths if !x || 1 / 0]", "division by 0"),
            ("[x == 2 ? r.b : 1 for x in [1, 2, 3] if x < 3 || 1 / 0]", "no field b"),
            ("[x / 0 for x in l] + r.b", "division by 0"),
        ]:
            self.assertEqual(value(source), message, source)

    def test_the_order_within_a_gathering(self):
        # Member by member: first the condition, then the value.
        self.assertEqual(value("[r.b for x in [1, 2] if x < 2 || 1 / 0]"), "no field b")
        self.assertEqual(value("[x == 1 ? 1 : r.b for x in [1, 2, 3] if x == 3 ? 1 / 0 : yes]"), "no field b")
        self.assertEqual(value("[x == 3 ? r.b : 1 for x in [1, 2, 3] if x == 2 ? 1 / 0 : yes]"), "division by 0")

    def test_the_owner(self):
        for owner in (1, 0, 77):
            self.assertEqual(value("[do a(), {b: do c(do d())}]", owner=owner),
                             ("value",
                              [("act", owner, "a", []), {"b": ("act", owner, "c", [("act", owner, "d", [])])}]))

    def test_names_of_a_gathering_stand_for_the_members_alone(self):
        self.assertEqual(value("[n for n in [1, 2]] + [n]"), ("value", [1, 2, 7]))
        self.assertEqual(value("[[n for n in [n, 3]] for n in [1]]"), ("value", [[1, 3]]))

    def test_nothing_is_shared_and_nothing_changes(self):
        for source in [row[0] for row in ROWS] + ["[l, l, r, r]", "{a: l}.a", "[l][0]", "yes ? l : r",
                                                  "[x for x in [l, l]]", "l + l", "get(r, \"y\", 0)",
                                                  "get(null, 0, l)",
                                                  "act", "[act]", "do go(l, act)", "slice(l, 0, 3)", "r.y", "l[2]",
                                                  "sorted([1])", "get(l, 2, 0)"]:
            tree = expression(source)
            environment = copy.deepcopy(ENVIRONMENT)
            kept = copy.deepcopy(tree)
            found = evaluate(tree, environment, 1)
            first = copy.deepcopy(found)
            mine = parts(found)
            self.assertEqual(len({id(part) for part in mine}), len(mine))
            for part in mine:
                self.assertFalse(any(part is other for held in environment.values() for other in parts(held)))
                part.clear()
            self.assertEqual(environment, ENVIRONMENT)
            self.assertEqual(tree, kept)
            self.assertEqual(repr(evaluate(tree, environment, 1)), repr(first))

    def test_nothing_changes_behind_a_fault(self):
        for source, _ in FAULTS:
            environment = copy.deepcopy(ENVIRONMENT)
            tree = expression(source)
            kept = copy.deepcopy(tree)
            self.assertEqual(fault_of(evaluate, tree, environment, 1), fault_of(evaluate, tree, environment, 1))
            self.assertEqual(environment, ENVIRONMENT)
            self.assertEqual(tree, kept)

    def test_random_expressions(self):
        evaluated = 0
        for seed in range(3000):
            tree = Maker(seed).expression(3)
            environment = {name: ENVIRONMENT[["n", "t", "l", "r", "yes", "truths"][index % 6]] for index,
                           name in enumerate(free_names(tree))}
            stores = [(name, 1) for name in environment if name != "event"]
            handlers = [(name, [], []) for name in ["a", "b", "row", "Main", "x_1", "text", "length", "onx", "aB"]]
            component = {"name": "A", "parameters": [], "contexts": [], "cells": [], "definitions": [],
                         "handlers": handlers, "effects": [],
                         "view": [("show", tree)]}
            if is_sound({"stores": stores, "components": [component]}):
                first = fault_of(evaluate, tree, environment, 1)
                again = fault_of(evaluate, tree, environment, 1)
                self.assertEqual(repr(first), repr(again))
                if isinstance(first, tuple):
                    evaluated += 1
                    self.assertTrue(same(first[1], again[1]))
        self.assertGreater(evaluated, 100)
