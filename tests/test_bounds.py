"""The bounds of values that are made ([23])."""

import unittest

from tests.helpers import expression, fault_of
from viewloom.values.evaluating import evaluate
from viewloom.values.functions import call_function
from viewloom.values.plain import depth, size

MOST = 10 ** 30


def nest(count, inner=1):
    """Returns a list of a depth, with a value in its innermost list."""
    value = [inner]
    for _ in range(count - 2):
        value = [value]
    return value


def row(count, member=1):
    return [member] * count


# Values beyond the bounds, as they can stand in an environment.
ENVIRONMENT = {
    "most": MOST, "least": -MOST, "beyond": MOST + 1, "below": -MOST - 1, "t2000": "x" * 2000, "t2001": "x" * 2001,
    "t1000": "x" * 1000,
    "t1001": "x" * 1001, "l200": row(200), "l201": row(201), "l100": row(100), "l101": row(101), "d19": nest(19),
    "d20": nest(20), "d21": nest(21),
    "s1999": ["x" * 1997], "s2000": ["x" * 1998], "s2001": ["x" * 1999],
    "r": {"a": MOST + 1, "b": row(201), "c": "x" * 3000, "d": nest(25)},
    "z": 0, "one": 1, "e": "",
}


def value(source, **more):
    return fault_of(evaluate, expression(source), {**ENVIRONMENT, **more}, 1)


class Bounds(unittest.TestCase):
    def assert_made(self, source, **more):
        found = value(source, **more)
        self.assertEqual(found[0], "value", (source, found))
        return found[1]

    def test_the_values_of_these_tests(self):
        self.assertEqual([depth(ENVIRONMENT[name]) for name in ("d19", "d20", "d21")], [19, 20, 21])
        self.assertEqual([size(ENVIRONMENT[name]) for name in ("s1999", "s2000", "s2001")], [1999, 2000, 2001])

    def test_numbers(self):
        for source, number in [
            ("most + 0", MOST), ("least - 0", -MOST), ("-most", -MOST), ("-least", MOST), ("most * 1", MOST),
            ("most * -1", -MOST), ("most / 1", MOST),
            ("most - 1 + 1", MOST), ("beyond - 1", MOST), ("below + 1", -MOST), ("beyond / 2", MOST // 2),
            ("beyond * 0", 0),
            ("min(most, 1)", 1), ("max(least, 1)", 1), ("min(most, most)", MOST), ("max(least, least)", -MOST),
            ("rest(most, 7)", MOST - MOST // 7 * 7),
        ]:
            self.assertEqual(value(source), ("value", number), source)
        for source in ["most + 1", "least - 1", "most - -1", "most * 2", "least * 2", "most * most", "-beyond",
                       "-below", "beyond + 0", "0 - beyond", "beyond * 1",
                       "beyond / 1", "below / -1", "beyond - 2 + 2 + 1", "1 + most", "most + most", "[most + 1]",
                       "[x + 1 for x in [most]]", "max(beyond, 1)", "min(below, 1)"]:
            self.assertEqual(value(source), "number too large", source)

    def test_texts(self):
        for source, length in [
            ("t2000 + e", 2000), ("e + t2000", 2000), ("t1000 + t1000", 2000), ("t1000 + (t1000 + null)", 2000),
            ("join(two, e)", 2000),
            ('join([t1000, "x"], slice(t1000, 0, 999))', 2000), ("join(one, t2001)", 2000), ("join([], t2001)", 0),
        ]:
            names = {"two": ["x" * 1000, "y" * 1000], "one": ["x" * 2000]}
            self.assertEqual(len(self.assert_made(source, **names)), length, source)
        for source in ["t2000 + 1", "1 + t2000", "t1000 + t1001", "t2001 + e", "e + t2001", "t2001 + null",
                       "t2000 + yes", "join(two, e)", "join(two, \"y\")",
                       "join(one, e)", "join(l100, t1000)", "join([1, 2], t2000)"]:
            self.assertEqual(value(source, yes=True, two=["x" * 1000, "y" * 1001], one=["x" * 2001]), "too large",
                             source)

    def test_many_members(self):
        for source, count in [
            ("l100 + l100", 200), ("l200 + []", 200), ("[] + l200", 200), ("[x for x in l200]", 200),
            ("[x for x in l201 if no]", 0), ("slice(l201, 0, 200)", 200),
            ("slice(l201, 1, 500)", 200), ("slice(l200, 0, 500)", 200), ("range(200)", 200), ("sorted(l200)", 200),
            ("split(slice(t2001, 0, 199), \"x\")", 200), ("keys(k200)", 200),
        ]:
            names = {"no": False, "k200": {f"a{index}": 1 for index in range(200)}}
            self.assertEqual(len(self.assert_made(source, **names)), count, source)
        for source in ["l100 + l101", "l201 + []", "[] + l201", "l200 + [1]", "[x for x in l201]",
                       "slice(l201, 0, 201)", "slice(l201, -5, 900)", "range(201)", "sorted(l201)",
                       "split(slice(t2001, 0, 200), \"x\")", "keys(k201)"]:
            names = {"k201": {f"a{index:03}": 1 for index in range(201)}}
            self.assertEqual(value(source, **names), "too large", source)
        written = "[" + ", ".join(["1"] * 200) + "]"
        self.assertEqual(len(self.assert_made(written)), 200)
        self.assertEqual(value(written[:-1] + ", 1]"), "too large")

    def test_many_members_of_a_record_or_an_act(self):
        fields = ", ".join(f"a{index}: 1" for index in range(300))
        self.assertEqual(len(self.assert_made("{" + fields + "}")), 300)
        self.assertEqual(len(self.assert_made("do h(" + ", ".join(["1"] * 300) + ")")[3]), 300)

    def test_depth(self):
        for source, deep in [
            ("[d19]", 20), ("[[d19][0]]", 20), ("{a: d19}", 20), ("do h(d19)", 20), ("d20 + d20", 20),
            ("d20 + []", 20), ("[x for x in [d19]]", 20), ("[x for x in d20]", 20),
            ("slice(d20, 0, 1)", 20), ("[1, d19, [d19][0]]", 20), ("{a: 1, b: [[]], c: d19}", 20),
            ("slice(d21, 0, 0)", 1), ("[1 for x in d21]", 2), ("slice([d19], 0, 1)", 20),
        ]:
            self.assertEqual(depth(self.assert_made(source)), deep, source)
        for source in ["[d20]", "{a: d20}", "do h(d20)", "d21 + d21", "d21 + []", "[] + d21",
                       "[x for x in [d19] + d21]", "[x for x in d21]", "slice(d21, 0, 1)", "[[d19]]", "{a: [d19]}",
                       "do h({a: d19})", "[1, d20, 2]"]:
            self.assertEqual(value(source), "nested too deep", source)

    def test_size(self):
        for source, large in [
            ("[slice(t2000, 0, 1998)]", 2000), ("s2000 + []", 2000), ("[x for x in s2000]", 2000),
            ("slice(s2000, 0, 1)", 2000), ("sorted(s2000)", 2000),
            ("{ab: slice(t2000, 0, 1996)}", 2000), ("do go(slice(t2000, 0, 1996))", 2000),
            ("split(slice(t2000, 0, 1998), \"y\")", 2000), ("keys(k)", 2000),
            ("[l200, l200, l200, l200, l200, l200, l200, l200, l200, slice(l200, 0, 189)]", 2000),
        ]:
            self.assertEqual(size(self.assert_made(source, k={"x" * 1998: 1})), large, source)
        for source in ["[slice(t2000, 0, 1999)]", "s2001 + []", "[] + s2001", "[x for x in s2001]",
                       "slice(s2001, 0, 1)", "sorted(s2001)", "{ab: slice(t2000, 0, 1997)}",
                       "do go(slice(t2000, 0, 1997))", "split(slice(t2000, 0, 1999), \"y\")", "keys(k)", "[t2000]",
                       "[s1999, 1]",
                       "[l200, l200, l200, l200, l200, l200, l200, l200, l200, slice(l200, 0, 190)]"]:
            self.assertEqual(value(source, k={"x" * 1999: 1}), "too large", source)

    def test_order_of_the_bounds(self):
        # More members than there can be, then the depth, then the size.
        self.assertEqual(value("l201 + d21"), "too large")
        self.assertEqual(value("l200 + d21"), "too large")
        self.assertEqual(value("l100 + d21"), "nested too deep")
        self.assertEqual(value("[d20, t2001]"), "nested too deep")
        self.assertEqual(value("[d19, t2001]"), "too large")
        self.assertEqual(value("{a: d20, b: t2001}"), "nested too deep")
        self.assertEqual(value("do h(d20, t2001)"), "nested too deep")
        self.assertEqual(value("s2001 + d21"), "nested too deep")
        self.assertEqual(value("slice(l, 0, 300)", l=row(201) + nest(30)), "too large")

    def test_all_members_come_ahead_of_the_list(self):
        many = ", ".join(["1"] * 250)
        self.assertEqual(value("[" + many + ", 1 / 0]"), "division by 0")
        self.assertEqual(value("[d20, 1 / 0]"), "division by 0")
        self.assertEqual(value("{a: d20, b: 1 / 0}"), "division by 0")
        self.assertEqual(value("do h(d20, 1 / 0)"), "division by 0")
        self.assertEqual(value("[x == 1 ? 1 : 1 / 0 for x in l201 + [2]]"), "too large")
        self.assertEqual(value("[x == 1 ? 1 : 1 / 0 for x in l]", l=row(250) + [2]), "division by 0")
        self.assertEqual(value("[[d20], 1 / 0]"), "nested too deep")

    def test_what_is_not_looked_at(self):
        for source, expected in [
            ("beyond", MOST + 1), ("t2001", "x" * 2001), ("l201", row(201)), ("d21", nest(21)), ("r.a", MOST + 1),
            ("r.b", row(201)), ("r.c", "x" * 3000), ("r.d", nest(25)),
            ("r", ENVIRONMENT["r"]), ('r["a"]', MOST + 1), ("ll[0]", row(201)), ("ll[1][0]", MOST + 1),
            ("yes ? l201 : 1", row(201)), ("length(l201)", 201), ("length(t2001)", 2001),
            ("slice(t2001, 0, 2001)", "x" * 2001), ("text(t2001)", "x" * 2001), ("text(beyond)", str(MOST + 1)),
            ("get(r, \"b\", 0)", row(201)), ("get(ll, 1, 0)", [MOST + 1]),
            ("get(null, 0, l201)", row(201)), ("get(r, \"z\", t2001)", "x" * 2001), ("get(ll[1], 0, 0)", MOST + 1),
            ("l201 == l201", True), ("beyond == beyond", True), ("beyond > most", True),
            ("find(l201, 2)", -1), ("find(t2001, \"y\")", -1), ("[x for x in ll[0] if no]", []),
            ("e + beyond", str(MOST + 1)), ("join([1], t2001)", "1"), ("[beyond]", [MOST + 1]),
            ("[x for x in ll[1]]", [MOST + 1]), ("{a: beyond}", {"a": MOST + 1}),
            ("do h(beyond)", ("act", 1, "h", [MOST + 1])), ("ll[1] + []", [MOST + 1]),
        ]:
            self.assertEqual(value(source, yes=True, no=False, ll=[row(201), [MOST + 1]]), ("value", expected), source)

    def test_by_call_function(self):
        for name, arguments, expected in [
            ("slice", [row(201), 0, 201], "too large"), ("slice", [nest(21), 0, 1], "nested too deep"),
            ("slice", [["x" * 1999], 0, 1], "too large"), ("sorted", [row(201)], "too large"),
            ("sorted", [["x" * 1999]], "too large"), ("keys", [{f"a{i}": 1 for i in range(201)}], "too large"),
            ("split", ["x" * 200, "x"], "too large"), ("range", [201], "too large"),
            ("join", [["x" * 2000, "x"], ""], "too large"), ("rest", [MOST, 3], ("value", MOST % 3)),
            ("get", [row(201), 200, 0], ("value", 1)), ("get", [[row(201)], 0, 0], ("value", row(201))),
            ("text", ["x" * 3000], ("value", "x" * 3000)), ("slice", ["x" * 3000, 0, 2500], ("value", "x" * 2500)),
        ]:
            self.assertEqual(fault_of(call_function, name, arguments), expected, (name, expected))
