"""How values that are made are measured: the bounds of depth and size ([20], [23]), in any order, and at what cost."""

import copy
import random
import sys
import unittest

from tests.helpers import fault_of
from viewloom.values.evaluating import evaluate
from viewloom.values.plain import depth, size

P = [[3] * 209] * 11
Q = [P, P, P]
R = [[3] * 190] * 9


def plain_depth(value):
    """The depth of a value, by the words of [20]."""
    if isinstance(value, dict):
        value = list(value.values())
    if isinstance(value, tuple):
        value = value[3]
    if isinstance(value, list):
        return 1 + max([plain_depth(member) for member in value], default=0)
    return 1


def plain_size(value):
    """The size of a value, by the words of [20]."""
    if isinstance(value, str):
        return 1 + len(value)
    if isinstance(value, dict):
        return 1 + sum(len(name) + plain_size(member) for name, member in value.items())
    if isinstance(value, tuple):
        return 1 + len(value[2]) + sum(plain_size(member) for member in value[3])
    if isinstance(value, list):
        return 1 + sum(plain_size(member) for member in value)
    return 1


def plain_answer(value):
    """What is told of a value that is made ([23])."""
    if isinstance(value, list) and len(value) > 200:
        return "too large"
    if plain_depth(value) > 20:
        return "nested too deep"
    return "too large" if plain_size(value) > 2000 else ("value", value)


def names(count):
    return [("name", f"v{index}") for index in range(count)]


def made(values, kind):
    """Returns what is told when a list, a record or an act of values is made of names, and that value."""
    environment = {f"v{index}": value for index, value in enumerate(values)}
    if kind == "list":
        return fault_of(evaluate, ("list", names(len(values))), environment, 3), values
    if kind == "record":
        fields = [(f"f{index}", name) for index, name in enumerate(names(len(values)))]
        record = {f"f{index}": value for index, value in enumerate(values)}
        return fault_of(evaluate, ("record", fields), environment, 3), record
    if kind == "act":
        return fault_of(evaluate, ("act", "press", names(len(values))), environment, 3), ("act", 3, "press", values)
    if kind == "gather":
        environment = {"l": values}
        return fault_of(evaluate, ("gather", ("name", "x"), "x", ("name", "l"), None), environment, 3), values
    environment = {"a": values[:1], "b": values[1:]}
    return fault_of(evaluate, ("binary", "+", ("name", "a"), ("name", "b")), environment, 3), values


KINDS = ("list", "record", "act", "gather", "sum")


def nest(levels, inner, turn=0):
    """Returns a value with another one inside lists, records and acts in turn, each adding one to the depth."""
    value = inner
    for level in range(levels):
        kind = (level + turn) % 3
        value = [value] if kind == 0 else {"": value} if kind == 1 else ("act", 1, "", [value])
    return value


def random_value(chance, room):
    if room == 0 or chance.random() < 0.3:
        return chance.choice([None, True, False, 0, 7, "", "ab", "x" * 50, "x" * 900, [], {}, ("act", 1, "go", [])])
    members = [random_value(chance, room - 1) for _ in range(chance.choice([0, 1, 1, 2, 5]))]
    kind = chance.randrange(3)
    if kind == 0:
        return members
    if kind == 1:
        return {chance.choice("abcde") * chance.randint(0, 9): member for member in members}
    return ("act", chance.randint(1, 9), "h" * chance.randint(1, 5), members)


class Counter:
    """Counts the functions of Python that are called."""

    def __init__(self):
        self.count = 0

    def note(self, frame, event, argument):
        self.count += event == "call"

    def calls(self, call, *arguments):
        before = sys.getprofile()
        sys.setprofile(self.note)
        try:
            call(*arguments)
        finally:
            sys.setprofile(before)
        return self.count


FOUR = [
    (("list", [("name", "p")] * 3), {"p": P}, "too large", 6897),
    (("gather", ("name", "p"), "i", ("name", "q"), None), {"p": P, "q": Q}, "too large", 6897),
    (("act", "h", [("name", "p")] * 3), {"p": P}, "too large", 6897),
    (("record", [("a", ("name", "p")), ("b", ("name", "p")), ("c", ("name", "p"))]), {"p": P}, "too large", 6897),
    (("list", [("name", "p")] * 200), {"p": P}, "too large", 459800),
    (("list", [("name", "r")]), {"r": R}, ("value", [R]), 1710),
]


class Measuring(unittest.TestCase):
    def test_great_values(self):
        for expression, environment, answer, _ in FOUR:
            kept = copy.deepcopy(environment)
            self.assertEqual(fault_of(evaluate, expression, environment, 3), answer)
            self.assertEqual(environment, kept)

    def test_no_function_is_called_for_a_number(self):
        for expression, environment, _, numbers in FOUR:
            calls = Counter().calls(fault_of, evaluate, expression, environment, 3)
            self.assertLess(calls * 10, numbers, expression[0])

    def test_values_that_are_deep_and_large(self):
        large = ["x" * 1500, "y" * 1500]
        many = [[1] * 150 for _ in range(150)]
        for turn in range(3):
            for deep in (nest(20, 1, turn), nest(19, [[]], turn), nest(40, None, turn)):
                for row in (
                    [deep] + large, large[:1] + [deep] + large[1:], large + [deep], many + [deep], [deep] + many,
                    many[:75] + [deep] + many[75:], [large, [many, [many, deep]]], [many, {"a": [many + [deep]]}],
                    [P, P, deep], [deep, P, P], [[P, P, [deep]]],
                ):
                    for kind in KINDS:
                        self.assertEqual(made(row, kind)[0], "nested too deep", kind)
            for row in ([nest(18, 1, turn)] + large, many + [nest(18, 1, turn)], [P, P, nest(18, 1, turn)]):
                for kind in KINDS:
                    self.assertEqual(made(row, kind)[0], "too large", kind)

    def test_deep_values_in_one_another_are_found_at_once(self):
        # Each level doubles the one below it: looking at all of them would never end.
        value = [1]
        for _ in range(60):
            value = [value, value]
        self.assertEqual(fault_of(evaluate, ("list", [("name", "v")]), {"v": value}, 1), "nested too deep")

    def test_depth_of_20_and_21(self):
        for turn in range(3):
            for inner, deep in [(1, 1), ("abc", 1), ([], 1), ({}, 1), (("act", 1, "h", []), 1), ([1], 2), ([[]], 2)]:
                for kind in KINDS:
                    for whole, row in [(19, [1]), (20, ["z", []]), (21, [None, 1])]:
                        part = nest(whole - 1 - deep, inner, turn)
                        for members in (row + [part], [part] + row):
                            answer, value = made(members, kind)
                            self.assertEqual((plain_depth(value), depth(value)), (whole, whole))
                            self.assertEqual(answer, "nested too deep" if whole == 21 else ("value", value))

    def test_size_of_2000_and_2001(self):
        wholes = [
            [1] * 150, ["ab", [None, "c"]], {"name": 1, "other": "text"}, {"": {"a": [True]}},
            ("act", 12, "press", [1, "ab", ("act", 1, "go", [{}])]), [("act", 1, "h", [])] * 20, [[[]], {}, "", "x"],
        ]
        for kind in KINDS:
            for seed in range(30):
                chance = random.Random(seed)
                row = [chance.choice(wholes) for _ in range(chance.randint(1, 5))]
                place = chance.randint(0, len(row))
                missing = 2000 - plain_size(made(row, kind)[1]) - 1
                for more, answer in [(0, "value"), (1, "too large")]:
                    # A text beside the others, or within a list or a record of its own.
                    for filler in ("x" * (missing + more), ["x" * (missing - 1 + more)], [1] * (missing + more),
                                   {"n" * (missing - 1 + more): 1}, ("act", 1, "h" * (missing + more), [])):
                        if kind == "record":
                            # The name of one more field counts, too.
                            filler = "x" * (missing - 2 + more)
                        answered, value = made(row[:place] + [filler] + row[place:], kind)
                        self.assertEqual(plain_size(value), 2000 + more)
                        self.assertEqual(answered if more else answered[0], answer)

    def test_more_than_200_members(self):
        for kind in ("list", "gather", "sum"):
            self.assertEqual(made([1] * 200, kind)[0], ("value", [1] * 200))
            for row in ([1] * 201, [1] * 200 + [nest(30, 1)], ["x" * 3000] * 201):
                self.assertEqual(made(row, kind)[0], "too large")
        self.assertEqual(made([[1] * 201, 1], "list")[0][0], "value")
        self.assertEqual(made([1] * 201, "act")[0][0], "value")
        self.assertEqual(made([1] * 201, "record")[0][0], "value")

    def test_random_values(self):
        told = {}
        for seed in range(1500):
            chance = random.Random(seed)
            values = [nest(chance.choice([0, 3, 14, 15]), random_value(chance, 6), seed) for _ in range(3)]
            for value in values:
                self.assertEqual((depth(value), size(value)), (plain_depth(value), plain_size(value)))
            for kind in KINDS:
                answer, value = made(values, kind)
                self.assertEqual(answer, plain_answer(value))
                told[str(answer)[:5]] = True
        self.assertLessEqual({"neste", "too l"}, set(told))

    def test_values_beyond_the_bounds(self):
        for value, deep, large in [
            (P, 3, 2311), (Q, 4, 6934), (R, 3, 1720), (nest(100, 1), 101, 101), (nest(100, []), 101, 101),
            ("x" * 5000, 1, 5001), ({"a" * 3000: "b" * 3000}, 2, 6002), (("act", 1, "h" * 2500, []), 1, 2501),
            ([[1] * 300] * 300, 3, 90301), (("act", 1, "go", [["ab"] * 1000]), 3, 3004),
        ]:
            self.assertEqual((depth(value), size(value)), (deep, large))
            self.assertEqual((depth([value]), size([value])), (deep + 1, large + 1))
