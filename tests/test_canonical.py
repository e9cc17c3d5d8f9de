"""The canonical text, and reading it back ([10], [11])."""

import copy
import unittest

from tests import samples
from tests.helpers import component, constant, expression, node, respaced, statement
from tests.random_programs import Maker
from viewloom.errors import InvalidSource
from viewloom.words.printing import program_text
from viewloom.words.reading import parse_expression, parse_program
from viewloom.words.showing import constant_text, expression_text, quoted
from viewloom.words.tokens import tokens

EXPRESSIONS = [
    "null", "true", "false", "0", str(10 ** 30), '"a\\"b\\\\c\\nd"', '""', "a", "Main", "[]", "[1]", "[1, [a, []], 2]",
    "{}", "{a: 1}", "{a: 1, B: {c: []}}", "a.b", "a.b.c", "1.b", '"x".b', "[1].a", "{a: 1}.a", "a[1]", "a[b[1]].c[2]",
    "a[b + 1]", "a[b ? 1 : 2]", "!a", "-1", "--a", "!!a", "-!a.b[1]", "a ? b : c", "a ? b : c ? 1 : 2",
    "a ? b ? 1 : 2 : c",
    "(a ? b : c) ? 1 : 2", "a || b ? c && 1 : 2 == 3", "f()", "f(1)", "f(a ? b : c, -1, [2])", "f(a).b[1]", "do h()",
    "do h(1, {a: 2})", "do h().a", "-do h()", "[a for a in b]", "[a + 1 for a in b ? c : [] if a ? true : b]",
    "[[a for a in b] for b in c if !d]", "[a for a in b].c", "(-a).b", "(a + b)[1]", "(!a)[1]", "(a ? b : c).d",
    "-(a + b)", "!(a == b)", "-(a ? b : c)", "!(a && b)", "-a + b", "a - -b", "a - (b - c)", "a - b - c",
    "a * (b + c)",
    "a * b + c", "a + b * c", "(a || b) && c", "a || b && c", "a == b == c", "a == (b == c)", "a < b < c",
    "a < (b > c)",
    "(a == b) < c", "a == b < c", "a / b * c", "a / (b * c)", "(a ? b : c) + 1", "1 + (a ? b : c)", "a <= b", "a >= b",
    "a != b", "a > b", "a && b", "[a || b, c]", "{a: b ? 1 : 2}",
]
CONSTANTS = [
    (None, "null"), (True, "true"), (False, "false"), (0, "0"), (1, "1"), (-1, "-1"), (10 ** 30, str(10 ** 30)),
    (-10 ** 30, "-" + str(10 ** 30)), ("", '""'), ('a"\\\n', '"a\\"\\\\\\n"'), ([], "[]"),
    ([1, [-2, "x"]], '[1, [-2, "x"]]'),
    ({}, "{}"), ({"b": 1, "A": {"a": None}}, "{b: 1, A: {a: null}}"), ([True, {"a": []}], "[true, {a: []}]"),
]
# Sources and the lines of their canonical text.
STATEMENTS = [
    ("a=1;", ["a = 1;"]), ("call a ( );", ["call a();"]), ("call a . b ( 1,c );", ["call a.b(1, c);"]),
    ("log( );", ["log();"]), ("log(1,(2));", ["log(1, 2);"]), ("stop ;", ["stop;"]), ("prevent;", ["prevent;"]),
    ("if a{}", ["if a {}"]), ("if a{}else{}", ["if a {}"]), ("if(a){stop;}", ["if a {", "  stop;", "}"]),
    ("if a{}else{stop;}", ["if a {} else {", "  stop;", "}"]),
    ("if a{stop;}else{later{stop;}}", ["if a {", "  stop;", "} else {", "  later {", "    stop;", "  }", "}"]),
    ("later{}", ["later {}"]), ("later{a=1;stop;}", ["later {", "  a = 1;", "  stop;", "}"]),
    ("after(1){}", ["after 1 {}"]),
    ("after a{stop;}", ["after a {", "  stop;", "}"]), ("every{}{stop;}", ["every {} {", "  stop;", "}"]),
]
NODES = [
    ('"a\\n"', ['"a\\n"']), ("{ a }", ["{a}"]), ('{"a"}', ['{"a"}']), ("{ { } }", ["{{}}"]), ("{{a:1}}", ["{{a: 1}}"]),
    ("slot", ["slot"]),
    ("< p />", ["<p/>"]), ("<p></p>", ["<p/>"]), ("<p> slot </p >", ["<p>", "  slot", "</p>"]),
    ('<p a = "x" b={ 1 } c={"y"}/>', ['<p a="x" b={1} c="y"/>']),
    ('<p on a={"x"} on b={do h( )}></p>', ['<p on a={"x"} on b={do h()}/>']),
    ('<p a="x" on a={b}><q/>"t"</p>', ['<p a="x" on a={b}>', "  <q/>", '  "t"', "</p>"]), ("<P></P>", ["<P/>"]),
    ('<P a={"x"} B={{}}>{a}</P>', ['<P a="x" B={{}}>', "  {a}", "</P>"]),
    ("<p a={b > c}>slot</p>", ["<p a={b > c}>", "  slot", "</p>"]),
    ("if a{}", ["if a {}"]), ("if a{}else{}", ["if a {}"]), ("if a{slot}else{}", ["if a {", "  slot", "}"]),
    ("if a{}else{slot}", ["if a {} else {", "  slot", "}"]),
    ("if a{slot}else{slot}", ["if a {", "  slot", "} else {", "  slot", "}"]),
    ("each a in b{}", ["each a in b {}"]), ("each a,b in[1]by c{slot}", ["each a, b in [1] by c {", "  slot", "}"]),
    ("provide a=1{}", ["provide a = 1 {}"]), ("provide a=b{slot}", ["provide a = b {", "  slot", "}"]),
    ("await{}else{}", ["await {} else {}"]), ("await{slot}else{}", ["await {", "  slot", "} else {}"]),
    ("await{}else{slot}", ["await {} else {", "  slot", "}"]),
    ("await{slot}else{slot}", ["await {", "  slot", "} else {", "  slot", "}"]),
    ("try{}catch a{}", ["try {} catch a {}"]), ("try{slot}catch a{}", ["try {", "  slot", "} catch a {}"]),
    ("try{}catch a{slot}", ["try {} catch a {", "  slot", "}"]),
    ("try{slot}catch a{{a}}", ["try {", "  slot", "} catch a {", "  {a}", "}"]),
]
LINES = [
    ("context a;", ["context a;"]), ("state a=1;", ["state a = 1;"]), ("let a=(1);", ["let a = 1;"]),
    ("resource a=1;", ["resource a = 1;"]),
    ("handler a( ){}", ["handler a() {}"]), ("handler a(b,c){stop;}", ["handler a(b, c) {", "  stop;", "}"]),
    ("effect[]{}", ["effect [] {}"]), ("effect[a,1]{stop;}", ["effect [a, 1] {", "  stop;", "}"]),
    ("effect[]{}cleanup{}", ["effect [] {}"]),
    ("effect[]{}cleanup{stop;}", ["effect [] {} cleanup {", "  stop;", "}"]),
    ("effect[]{stop;}cleanup{stop;}", ["effect [] {", "  stop;", "} cleanup {", "  stop;", "}"]),
    ("effect[]{stop;}cleanup{}", ["effect [] {", "  stop;", "}"]),
]


def text_of_component(lines=(), view=()):
    """Returns the canonical text of a component with these lines and lines of a view."""
    rows = ["component A() {", *("  " + line for line in lines)]
    rows += ["  view {", *("    " + line for line in view), "  }"] if view else ["  view {}"]
    return "\n".join([*rows, "}", ""])


class CanonicalText(unittest.TestCase):
    def check(self, source, text):
        program = parse_program(source)
        kept = copy.deepcopy(program)
        self.assertEqual(program_text(program), text)
        self.assertEqual(program, kept)
        self.assertEqual(parse_program(text), program)

    def test_expressions(self):
        for source in EXPRESSIONS:
            value = expression(source)
            kept = copy.deepcopy(value)
            self.assertEqual(expression_text(value), source)
            self.assertEqual(value, kept)
            for seed in range(3):
                self.assertEqual(expression_text(expression("(" + respaced(source, seed) + ")")), source)

    def test_needless_parentheses(self):
        for source, text in [
            ("((a) + (b))", "a + b"), ("(a * b) + (c)", "a * b + c"), ("(a + b) + c", "a + b + c"), ("-(-(a))", "--a"),
            ("(a).b", "a.b"), ("(a.b)[(1)]", "a.b[1]"), ("a ? (b) : (c ? 1 : 2)", "a ? b : c ? 1 : 2"),
            ("(a || b) ? (b ? 1 : 2) : c", "a || b ? b ? 1 : 2 : c"), ("[(a ? b : c)]", "[a ? b : c]"),
            ("!(a.b)", "!a.b"),
            ("(!a) && (-b < c)", "!a && -b < c"), ("[(a) for a in (b) if (c)]", "[a for a in b if c]"), ("-(1)", "-1"),
        ]:
            self.assertEqual(expression_text(expression(source)), text)

    def test_constants(self):
        for value, text in CONSTANTS:
            kept = copy.deepcopy(value)
            self.assertEqual(constant_text(value), text)
            self.assertEqual(repr(constant(text)), repr(value))
            self.assertEqual(value, kept)
            self.check(f"store a={text};", f"store a = {text};\n")

    def test_quoted(self):
        for text in ["", "a", '"', "\\", "\n", '\\"', "\\n", '"\\\n"', "a b // c", "\\\\", "{}"]:
            self.assertEqual(tokens(quoted(text))[0], ("text", text, 1, 1))
        self.assertEqual(quoted('a"b\\c\nd'), '"a\\"b\\\\c\\nd"')

    def test_statements(self):
        for source, lines in STATEMENTS:
            rows = ["handler h() {", *("  " + line for line in lines), "}"]
            self.check(component("handler h() {" + source + "}"), text_of_component(rows))
            rows = ["effect [] {} cleanup {", *("  " + line for line in lines), "}"]
            self.check(component("effect[]{}cleanup{" + source + "}"), text_of_component(rows))

    def test_nodes(self):
        for source, lines in NODES:
            self.check(component(view=source), text_of_component(view=lines))
            rows = ["<b>", *("  " + line for line in lines), *("  " + line for line in lines), "</b>"]
            self.check(component(view="<b>" + source + " " + source + "</b>"), text_of_component(view=rows))

    def test_lines(self):
        for source, lines in LINES:
            self.check(component(source), text_of_component(lines))
            self.check(component(source + source), text_of_component(lines + lines))

    def test_parameters(self):
        self.check(component(parameters="a,b,C"), "component A(a, b, C) {\n  view {}\n}\n")

    def test_whole_programs(self):
        self.check("", "")
        self.check("store a=1;store b=2;", "store a = 1;\nstore b = 2;\n")
        self.check(component() + component(name="B"), text_of_component() + text_of_component().replace("A", "B"))
        self.check(samples.WHOLE, samples.CANONICAL)
        self.check(samples.CANONICAL, samples.CANONICAL)

    def test_random_programs_are_read_back(self):
        count = 0
        for seed in range(300):
            program = Maker(seed).program(3)
            kept = copy.deepcopy(program)
            text = program_text(program)
            self.assertEqual(program, kept)
            if len(text) > 20000:
                continue
            count += 1
            found = parse_program(text)
            self.assertEqual(found, program)
            self.assertEqual(repr(found), repr(program))
            self.assertEqual(program_text(found), text)
            other = respaced(text, seed)
            if len(other) <= 20000:
                self.assertEqual(program_text(parse_program(other)), text)
        self.assertGreater(count, 200)

    def test_random_expressions_have_no_needless_parentheses(self):
        for seed in range(400):
            value = Maker(seed).expression(4)
            text = expression_text(value)
            self.assertEqual(parse_expression(text), value)
            found = tokens(text)
            for index, token in enumerate(found):
                ahead = found[index - 1][:2] if index else ("", "")
                if token[:2] == ("sign", "(") and ahead[0] != "word":
                    self.assertNotEqual(self.without_pair(text, found, index), value, text)

    def without_pair(self, text, found, index):
        """Returns what is read without the parentheses of which the first one is a token, or None."""
        deep, end = 0, index
        while True:
            if found[end][0] == "sign" and found[end][1] in "([{":
                deep += 1
            if found[end][0] == "sign" and found[end][1] in ")]}":
                deep -= 1
                if deep == 0:
                    break
            end += 1
        first, last = found[index][3] - 1, found[end][3] - 1
        try:
            return parse_expression(text[:first] + " " + text[first + 1:last] + " " + text[last + 1:])
        except InvalidSource:
            return None

    def test_helpers_read_one_part(self):
        self.assertEqual(node("slot"), ("slot",))
        self.assertEqual(statement("stop;"), ("stop",))
