"""Levels and depths ([8])."""

from tests.helpers import SourceCase, component
from viewloom.words.reading import parse_expression, parse_program

# What stands between the two parts is one level below what the whole stands in; "^" stands ahead of the first token
# of the first part that is so, too, if there is one.
EXPRESSIONS = [
    ("(", ")"), ("[", "]"), ("[^1, ", ", 2]"), ("f(", ")"), ("f(^1, ", ")"), ("do h(", ")"), ("a[", "]"),
    ("a.b[", "]"),
    ("{^x: ", "}"), ("{^x: 1, y: ", "}"), ("[", " for a in b]"), ("[^a for a in ", "]"), ("[^a for a in b if ", "]"),
    ("a ? ", " : b"), ("a ? ^b : ", ""), ("1 + (", ")"), ("a || b ? ", " : c"),
]
PREFIXES = [("-", ""), ("!", "")]
CONSTANTS = [("[", "]"), ("[^1, ", "]"), ("{^a: ", "}"), ("{^a: 1, b: ", "}")]
STATEMENTS = [
    ("if a { ", " }"), ("if a {} else { ", " }"), ("later { ", " }"), ("after 1 { ", " }"), ("every 1 { ", " }"),
    ("stop; if a { ^stop; ", " stop; }"), ("if a { ^stop; } else { ", "}"),
]
NODES = [
    ("<p>", "</p>"), ('<p a="x">', "</p>"), ('<p a="x" on b={^c}>', "</p>"), ("<P>", "</P>"), ("<p>^slot ", "</p>"),
    ("if a { ", " }"), ("if a {} else { ", " }"), ("each a in b { ", " }"), ("each a, b in c by d { ", " }"),
    ("provide a = 1 { ", " }"), ("await { ", " } else {}"), ("await {} else { ", " }"), ("try { ", " } catch a {}"),
    ("try {} catch a { ", " }"),
]


def nested(pairs, count, inner, first=0):
    """Returns the source of a part within some others, taken in turn.

    With it comes the place in it of the first token that stands within all of the others.
    """
    rows = [pairs[(first + index) % len(pairs)] for index in range(count)]
    ahead = "".join(row[0].replace("^", "") for row in rows)
    behind = "".join(row[1] for row in reversed(rows))
    last = rows[-1][0]
    at = len(ahead) - (len(last) - 1 - last.index("^") if "^" in last else 0)
    return ahead + inner + behind, at


class Levels(SourceCase):
    def check(self, call, frame, pairs, count, inners):
        """Checks that parts can stand within so many others in a frame, but not within one more."""
        for first in range(len(pairs)):
            # Each pair with itself, and all of them in turn.
            for row in (pairs[first:first + 1], pairs):
                for inner in inners:
                    source, _ = nested(row, count, inner, first)
                    call(frame.replace("@", source))
                    source, at = nested(row, count + 1, inner, first)
                    column = frame.index("@") + at + 1
                    self.assert_fault(call, frame.replace("@", source), 1, column, "nested too deep")
                    # The end and a wrong token are on this level, too.
                    cut = frame[:frame.index("@")] + source[:at]
                    self.assert_fault(call, cut, 1, column, "nested too deep")
                    self.assert_fault(call, cut + " ;", 1, len(cut) + 2, "nested too deep")
                    self.assert_fault(call, cut + "\n // x\n  view", 3, 3, "nested too deep")

    def test_expressions(self):
        self.check(parse_expression, "@", EXPRESSIONS, 19, ["1", "a", '"x"', "null", "a + 1", "f()"])

    def test_prefixes(self):
        self.check(parse_expression, "@", PREFIXES, 19, ["1", "a.b", "[]"])
        self.check(parse_expression, "1 + @ * 2", PREFIXES, 19, ["1"])
        self.check(parse_expression, "[a, f(@)]", PREFIXES, 17, ["1"])
        self.check(parse_program, component("handler h() { log(@); }"), PREFIXES, 16, ["a"])

    def test_expressions_in_lines_and_statements(self):
        self.check(parse_program, "component A() { state a = @; view {} }", EXPRESSIONS, 18, ["1"])
        self.check(parse_program, "component A() { effect [1, @] {} view {} }", EXPRESSIONS, 17, ["1"])
        for frame in ("a = @;", "log(1); if @ {}", "after @ {}", "every @ {}"):
            self.check(parse_program, component("handler h() { " + frame + " }"), EXPRESSIONS, 17, ["a"])
        for frame in ("call a(@);", "log(@, 1);"):
            self.check(parse_program, component("handler h() { " + frame + " }"), EXPRESSIONS, 16, ["a"])

    def test_expressions_in_nodes(self):
        for frame in ("if @ {}", "each a in @ {}", "each a in b by @ {}", "provide a = @ {}"):
            self.check(parse_program, component(view=frame), EXPRESSIONS, 17, ["a"])
        for frame in ("{@}", "<p a={@}/>", "<p on a={@}></p>", "<P a={@}/>"):
            self.check(parse_program, component(view=frame), EXPRESSIONS, 16, ["a"])

    def test_constants(self):
        self.check(parse_program, "store a = @;", CONSTANTS, 19, ["1", '"x"', "true"])
        self.check(parse_program, "store a = {b: -2}; store a = @;", CONSTANTS, 19, ["null"])

    def test_minus_of_a_constant(self):
        source, at = nested([("[", "]")], 19, "-1")
        self.assert_fault(parse_program, "store a = " + source + ";", 1, 10 + at + 2, "nested too deep")
        self.assert_fault(parse_program, "store a = " + source[:at + 1], 1, 10 + at + 2, "nested too deep")
        self.assert_fault(parse_program, "store a = " + source[:at + 1] + "  [", 1, 10 + at + 4, "nested too deep")

    def test_statements(self):
        self.check(parse_program, "component A() { handler h() { @ } view {} }", STATEMENTS, 17, ["stop;", "a = 1;"])
        self.check(parse_program, "component A() { effect [] {} cleanup { @ } view {} }", STATEMENTS, 17, ["later {}"])

    def test_nodes(self):
        self.check(parse_program, "component A() { view { @ } }", NODES, 17,
                   ["slot", '"x"', "<p/>", "<P></P>", "if a {}"])

    def test_names_in_parentheses(self):
        # Names stand in no deeper place than on level 3.
        parse_program(component("handler h(a, b) {}", parameters="a, b"))

    def test_what_is_empty_has_nothing_on_the_next_level(self):
        for inner in ("[]", "f()", "do h()", "{}"):
            parse_expression(nested(EXPRESSIONS, 19, inner)[0])
        for inner in ("[]", "{}"):
            parse_program("store a = " + nested(CONSTANTS, 19, inner)[0] + ";")
        for inner in ("later {}", "if a {} else {}", "log();", "call a();"):
            parse_program(component("handler h() {" + nested(STATEMENTS, 17, inner)[0] + "}"))
        for inner in ("<p></p>", "<P></P>", "<p/>", "if a {} else {}", "await {} else {}", "try {} catch a {}"):
            parse_program(component(view=nested(NODES, 17, inner)[0]))

    def test_end_behind_what_is_on_the_last_level(self):
        source, at = nested([("(", ")")], 19, "1")
        self.assert_fault(parse_expression, source[:at + 1], 1, at + 2, "unexpected end")
        self.assert_fault(parse_expression, source[:at + 1] + "]", 1, at + 2, "expected )")

    def test_levels_end_with_their_brackets(self):
        parse_expression(" + ".join(nested([("(", ")")], 19, "1")[0] for _ in range(20)))
        parse_expression("[" + ", ".join(["-" * 18 + "1"] * 20) + "]")
        parse_program(component(view=nested(NODES, 17, "slot")[0] * 5))
        lines = "handler h(a, b) { later { stop; } } effect [[a]] { log(1); } cleanup { call a(); }"
        deep = component(lines, nested(NODES, 17, "slot")[0], parameters="a, b")
        parse_program("store a = [-1, {a: [-1]}]; " * 25 + deep * 5)

    def test_attributes_stand_on_the_level_of_their_element(self):
        parse_program(component(view=nested(NODES, 17, '<p a="x"/>')[0]))
        source, at = nested([("if a {", "}")], 17, "<p a={1}/>")
        ahead = component(view="@").index("@")
        self.assert_fault(parse_program, component(view=source), 1, ahead + at + len("<p a={") + 1, "nested too deep")


class Depths(SourceCase):
    def check(self, count, make, place=0):
        """Checks that a chain can be so long, and that the fault of a longer one is at its first token."""
        parse_expression(make(count))
        self.assert_fault(parse_expression, make(count + 1), 1, place + 1, "nested too deep")
        self.assert_fault(parse_expression, make(count + 3), 1, place + 1, "nested too deep")

    def test_signs(self):
        for sign in ("||", "&&", "==", "<", "+", "-", "*", "/"):
            self.check(30, lambda count: f" {sign} ".join(["a"] * count))

    def test_fields_and_items(self):
        self.check(29, lambda count: "a" + ".b" * count)
        self.check(29, lambda count: "a" + "[1]" * count)
        self.check(28, lambda count: "f(a)" + ".b" * count)
        self.check(29, lambda count: "((a))" + "[1]" * count)
        self.check(28, lambda count: "(a + b)" + ".c[1]" * (count // 2) + ".d" * (count % 2))

    def test_what_stands_in_an_expression(self):
        chain = "+".join(["a"] * 29)
        for ahead, behind in [
            ("[", "]"), ("[1, ", "]"), ("{a: ", "}"), ("f(", ")"), ("f(1, ", ")"), ("do h(", ")"), ("a[", "]"),
            ("-(", ")"),
            ("!(", ")"), ("a ? ", " : b"), ("a ? b : ", ""), ("", " ? a : b"), ("[", " for a in b]"),
            ("[1 for a in ", "]"),
            ("[1 for a in b if ", "]"), ("", " == 1"), ("(", ").b"), ("(", ")[1]"), ("", " + a"), ("1 == ", ""),
        ]:
            parse_expression(ahead + chain + behind)
            self.assert_fault(parse_expression, ahead + chain + "+a" + behind, 1, 1, "nested too deep")
            parse_expression("(" + ahead + chain + behind + ")")

    def test_the_deepest_part_counts(self):
        chain = "+".join(["a"] * 20)
        parse_expression(f"[{chain}, {chain}] + ({chain}) + f({chain}, {chain})")

    def test_place_of_the_first_token(self):
        deep = "+".join(["a"] * 31)
        for source, column in [
            (deep, 1), ("(" + deep + ")", 2), ("1 * (" + deep, 6), ("[1, " + deep, 5), ("(1) + " + deep[2:] + ")", 1),
            ("-" + ".".join(["a"] * 31), 2), ("{a: 1, b: " + deep + "+]", 11), ("1 == (a)" + ".b" * 30, 6),
        ]:
            self.assert_fault(parse_expression, source, 1, column, "nested too deep")

    def test_as_soon_as_it_has_been_read(self):
        chain = "+".join(["a"] * 30)
        self.assert_fault(parse_expression, chain + " ]", 1, len(chain) + 2, "expected the end")
        self.assert_fault(parse_expression, chain + " + a ]", 1, 1, "nested too deep")
        self.assert_fault(parse_expression, chain + " + a * ]", 1, len(chain) + 8, "expected an expression")
        self.assert_fault(parse_expression, chain + " + a.]", 1, len(chain) + 6, "expected a name")
        self.assert_fault(parse_expression, "a" + ".b" * 29 + ".]", 1, 61, "expected a name")
        self.assert_fault(parse_expression, "a" + ".b" * 30 + ".]", 1, 1, "nested too deep")

    def test_names_behind_call(self):
        path = ".".join(["a"] * 30)
        parse_program(component("handler h() { call " + path + "(); }"))
        ahead = component("handler h() { call @").index("@")
        source = component("handler h() { call " + path + ".a();")
        self.assert_fault(parse_program, source, 1, ahead + 1, "nested too deep")
        self.assert_fault(parse_program, component("handler h() { call " + path + ".1"), 1, ahead + 61,
                          "expected a name")

    def test_levels_alone_do_not_make_depth(self):
        # Ten parentheses, and thirty operands in them.
        parse_expression("(" * 10 + "+".join(["a"] * 30) + ")" * 10)
