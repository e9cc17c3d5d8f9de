"""What is read: expressions, constants, statements, nodes and lines ([6], [9])."""

import unittest

from tests import samples
from tests.helpers import component, constant, expression, node, respaced, statement
from viewloom.words.reading import parse_expression, parse_program

A, B, C = ("name", "a"), ("name", "b"), ("name", "c")
ONE, TWO = ("number", 1), ("number", 2)

EXPRESSIONS = [
    ("null", ("null",)), ("true", ("true",)), ("false", ("false",)), ("0", ("number", 0)),
    (str(10 ** 30), ("number", 10 ** 30)), ('"a\\n"', ("text", "a\n")), ('""', ("text", "")), ("a", A),
    ("Main", ("name", "Main")), ("event", ("name", "event")), ("(a)", A), ("((a))", A),
    ("[]", ("list", [])), ("[1]", ("list", [ONE])), ("[1, 2]", ("list", [ONE, TWO])),
    ("[[]]", ("list", [("list", [])])),
    ("{}", ("record", [])), ("{a: 1}", ("record", [("a", ONE)])), ("{a: 1, B: a}", ("record", [("a", ONE), ("B", A)])),
    ("{a: 1, a: 2}", ("record", [("a", ONE), ("a", TWO)])),
    ("a.b", ("field", A, "b")), ("a.b.C", ("field", ("field", A, "b"), "C")), ("1.b", ("field", ONE, "b")),
    ("a[1]", ("item", A, ONE)), ("a[1][b].c", ("field", ("item", ("item", A, ONE), B), "c")),
    ("[1][2]", ("item", ("list", [ONE]), TWO)), ("{}.a", ("field", ("record", []), "a")),
    ("!a", ("not", A)), ("-1", ("minus", ONE)), ("!!a", ("not", ("not", A))), ("--a", ("minus", ("minus", A))),
    ("-!a", ("minus", ("not", A))), ("-a.b", ("minus", ("field", A, "b"))), ("(-a).b", ("field", ("minus", A), "b")),
    ("!a[1]", ("not", ("item", A, ONE))),
    ("a ? b : c", ("choice", A, B, C)),
    ("a ? b : c ? 1 : 2", ("choice", A, B, ("choice", C, ONE, TWO))),
    ("a ? b ? 1 : 2 : c", ("choice", A, ("choice", B, ONE, TWO), C)),
    ("(a ? b : c) ? 1 : 2", ("choice", ("choice", A, B, C), ONE, TWO)),
    ("a || b ? 1 : 2", ("choice", ("binary", "||", A, B), ONE, TWO)),
    ("f()", ("function", "f", [])), ("f(1, a)", ("function", "f", [ONE, A])), ("f (1)", ("function", "f", [ONE])),
    ("F(a).b", ("field", ("function", "F", [A]), "b")), ("f(1)[2]", ("item", ("function", "f", [ONE]), TWO)),
    ("do h()", ("act", "h", [])), ("do h(1, a)", ("act", "h", [ONE, A])), ("do H(a)", ("act", "H", [A])),
    ("do h(1).a", ("field", ("act", "h", [ONE]), "a")), ("-do h()", ("minus", ("act", "h", []))),
    ("[a for a in b]", ("gather", A, "a", B, None)), ("[1 for X in b if c]", ("gather", ONE, "X", B, C)),
    ("[[a for a in b] for b in c]", ("gather", ("gather", A, "a", B, None), "b", C, None)),
    ("[a for b in c ? 1 : 2 if a ? b : c]", ("gather", A, "b", ("choice", C, ONE, TWO), ("choice", A, B, C))),
    ("[[a for a in b], 1]", ("list", [("gather", A, "a", B, None), ONE])),
    ("a - -1", ("binary", "-", A, ("minus", ONE))), ("a--1", ("binary", "-", A, ("minus", ONE))),
    ("!a == b", ("binary", "==", ("not", A), B)), ("!(a == b)", ("not", ("binary", "==", A, B))),
    ("text", ("name", "text")), ("text(a)", ("function", "text", [A])), ("a.text", ("field", A, "text")),
]
LEVELS = [["||"], ["&&"], ["==", "!="], ["<", "<=", ">", ">="], ["+", "-"], ["*", "/"]]
SIGNS = [(sign, level) for level, row in enumerate(LEVELS) for sign in row]

CONSTANTS = [
    ("null", None), ("true", True), ("false", False), ("0", 0), ("7", 7), ("-7", -7), ("- 7", -7), ("-0", 0),
    (str(10 ** 30), 10 ** 30), ("-" + str(10 ** 30), -10 ** 30), ('"a\\""', 'a"'), ('""', ""), ("[]", []),
    ("[1, [], \"x\"]", [1, [], "x"]), ("{}", {}), ("{a: 1, B: {a: [true]}}", {"a": 1, "B": {"a": [True]}}),
    ("[-1, {b: null}]", [-1, {"b": None}]),
]

STATEMENTS = [
    ("a = b;", ("set", "a", B)), ("A = 1;", ("set", "A", ONE)), ("a = b == c;", ("set", "a", ("binary", "==", B, C))),
    ("call a();", ("call", A, [])), ("call a.b.c(1, b);", ("call", ("field", ("field", A, "b"), "c"), [ONE, B])),
    ("log();", ("log", [])), ("log(a, 1);", ("log", [A, ONE])), ("stop;", ("stop",)), ("prevent;", ("prevent",)),
    ("if a {}", ("if", A, [], [])), ("if a {} else {}", ("if", A, [], [])),
    ("if a { stop; } else { prevent; stop; }", ("if", A, [("stop",)], [("prevent",), ("stop",)])),
    ("if {} {}", ("if", ("record", []), [], [])),
    ("later {}", ("later", [])), ("later { stop; }", ("later", [("stop",)])),
    ("after 1 {}", ("after", ONE, [])), ("after a.b { stop; }", ("after", ("field", A, "b"), [("stop",)])),
    ("every 1 {}", ("every", ONE, [])), ("every {a: 1}.a { later {} }",
                                        ("every", ("field", ("record", [("a", ONE)]), "a"), [("later", [])])),
]

NODES = [
    ('"a"', ("text", "a")), ("{a}", ("show", A)), ('{"a"}', ("show", ("text", "a"))),
    ("{{}}", ("show", ("record", []))),
    ("slot", ("slot",)), ("<p/>", ("element", "p", [], [], [])), ("<p></p>", ("element", "p", [], [], [])),
    ("<h_1>slot</h_1>", ("element", "h_1", [], [], [("slot",)])),
    ('<p a="x" b={a} a={"y"}/>', ("element", "p", [("a", ("text", "x")), ("b", A), ("a", ("text", "y"))], [], [])),
    ("<p on click={a} on b={null}/>", ("element", "p", [], [("click", A), ("b", ("null",))], [])),
    ('<p a="" on a={"x"}>"t" <b/></p>',
     ("element", "p", [("a", ("text", ""))], [("a", ("text", "x"))], [("text", "t"), ("element", "b", [], [], [])])),
    ("<P/>", ("use", "P", [], [])), ("<P></P>", ("use", "P", [], [])),
    ('<P a="x" Bc={a}>slot</P>', ("use", "P", [("a", ("text", "x")), ("Bc", A)], [("slot",)])),
    ("if a {}", ("if", A, [], [])), ("if a {} else {}", ("if", A, [], [])),
    ("if a < b { slot } else { slot slot }",
     ("if", ("binary", "<", A, B), [("slot",)], [("slot",), ("slot",)])),
    ("each a in b {}", ("each", "a", None, B, None, [])), ("each a, c in b {}", ("each", "a", "c", B, None, [])),
    ("each a in b by a.c { {a} }", ("each", "a", None, B, ("field", A, "c"), [("show", A)])),
    ("each A, B in b by 1 {}", ("each", "A", "B", B, ONE, [])),
    ("provide a = 1 {}", ("provide", "a", ONE, [])), ("provide a = b { slot }", ("provide", "a", B, [("slot",)])),
    ("await {} else {}", ("await", [], [])), ("await { slot } else { {a} }", ("await", [("slot",)], [("show", A)])),
    ("try {} catch a {}", ("try", [], "a", [])),
    ("try { slot } catch a { {a} }", ("try", [("slot",)], "a", [("show", A)])),
]

COMPONENT = {
    "name": "A", "parameters": [], "contexts": [], "cells": [], "definitions": [], "handlers": [], "effects": [],
    "view": [],
}


class Grammar(unittest.TestCase):
    def test_expressions(self):
        for source, value in EXPRESSIONS:
            self.assertEqual(expression(source), value, source)
            self.assertEqual(expression("(" + source + ")"), value, source)
            for seed in range(3):
                self.assertEqual(expression(respaced(source, seed)), value, source)

    def test_two_signs(self):
        for first, level in SIGNS:
            for second, other in SIGNS:
                left = ("binary", second, ("binary", first, A, B), C)
                right = ("binary", first, A, ("binary", second, B, C))
                source = f"a {first} b {second} c"
                self.assertEqual(expression(source), right if other > level else left, source)
                self.assertEqual(expression(f"a {first} (b {second} c)"), right)
                self.assertEqual(expression(f"(a {first} b) {second} c"), left)

    def test_prefixes_bind_more_tightly_than_signs(self):
        for sign, _ in SIGNS:
            self.assertEqual(expression(f"-a {sign} !b"), ("binary", sign, ("minus", A), ("not", B)))

    def test_all_signs_in_a_row(self):
        loose_to_tight = expression("a || b && a == b < a + b * a")
        self.assertEqual(
            loose_to_tight,
            ("binary", "||", A, ("binary", "&&", B, ("binary", "==", A, ("binary", "<", B, (
                "binary", "+", A, ("binary", "*", B, A)))))),
        )
        tight_to_loose = expression("a * b + a < b == a && b || a")
        self.assertEqual(
            tight_to_loose,
            ("binary", "||", ("binary", "&&", ("binary", "==", ("binary", "<", ("binary", "+", (
                "binary", "*", A, B), A), B), A), B), A),
        )

    def test_constants(self):
        for source, value in CONSTANTS:
            found = constant(source)
            self.assertEqual(found, value, source)
            self.assertEqual(repr(found), repr(value), source)

    def test_statements(self):
        for source, value in STATEMENTS:
            self.assertEqual(statement(source), value, source)
            self.assertEqual(statement(respaced(source, 1)), value, source)

    def test_nodes(self):
        for source, value in NODES:
            self.assertEqual(node(source), value, source)
            self.assertEqual(node(respaced(source, 1)), value, source)

    def test_empty_program(self):
        for source in ("", "  \n // x"):
            self.assertEqual(parse_program(source), {"stores": [], "components": []})

    def test_smallest_component(self):
        program = parse_program(component())
        self.assertEqual(program, {"stores": [], "components": [COMPONENT]})
        self.assertEqual(list(program), ["stores", "components"])
        self.assertEqual(list(program["components"][0]), list(COMPONENT))

    def test_lines(self):
        for source, part, value in [
            ("context a; context B;", "contexts", ["a", "B"]),
            ("state a = 1; state B = a;", "cells", [("a", ONE), ("B", A)]),
            ("let a = 1; resource b = 2; let c = a;", "definitions",
             [("let", "a", ONE), ("resource", "b", TWO), ("let", "c", A)]),
            ("handler a() {} handler B(c, D) { stop; }", "handlers", [("a", [], []), ("B", ["c", "D"], [("stop",)])]),
            ("effect [] {} effect [a, 1] { stop; } cleanup { prevent; }", "effects",
             [([], [], []), ([A, ONE], [("stop",)], [("prevent",)])]),
            ("effect [a] {} cleanup {}", "effects", [([A], [], [])]),
        ]:
            self.assertEqual(parse_program(component(source))["components"], [{**COMPONENT, part: value}], source)

    def test_parameters(self):
        for source, value in [("", []), ("a", ["a"]), ("a, B, a", ["a", "B", "a"])]:
            found = parse_program(component(parameters=source))["components"]
            self.assertEqual(found, [{**COMPONENT, "parameters": value}])

    def test_several_parts_of_a_program(self):
        program = parse_program("store a = 1; store a = -2;" + component(name="B") + component(name="B1"))
        self.assertEqual(program["stores"], [("a", 1), ("a", -2)])
        self.assertEqual([part["name"] for part in program["components"]], ["B", "B1"])

    def test_spaces_newlines_and_comments_do_not_matter(self):
        program = parse_program(samples.WHOLE)
        for seed in range(20):
            self.assertEqual(parse_program(respaced(samples.WHOLE, seed)), program)

    def test_what_is_returned_is_its_own(self):
        program = parse_program(samples.WHOLE)
        seen = []

        def look(part):
            if isinstance(part, (list, dict)):
                self.assertFalse(any(part is other for other in seen))
                seen.append(part)
            if isinstance(part, (list, tuple)):
                for inner in part:
                    look(inner)
            if isinstance(part, dict):
                for inner in part.values():
                    look(inner)

        look(program)
        look(parse_program(samples.WHOLE))
        look(parse_expression("[[], {}, f(), do h(), [a for a in []]]"))
