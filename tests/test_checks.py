"""Checking programs ([12] to [17])."""

import copy
import itertools
import unittest

from tests import samples
from tests.helpers import component, program_fault
from tests.random_programs import Maker
from viewloom.checks.checking import Checker, is_sound
from viewloom.words.reading import parse_program

FUNCTIONS = (
    ("length", 1), ("text", 1), ("number", 1), ("slice", 3), ("find", 2), ("get", 3), ("join", 2), ("split", 2),
    ("keys", 1), ("sorted", 1), ("range", 1), ("rest", 2), ("min", 2), ("max", 2),
)
# A program with each place of an expression, as "@". Each place has the number of those that are told ahead of it.
PLACES = '''
store s = 1;
component A(p) {
  context c;
  state n = @0; state m = [@1, -@2];
  let d = @3; resource r = @4;
  handler h(q) {
    n = @5; s = @6; call p(@7, @8); log(@9, @10);
    if @11 { n = @12; } else { n = @13; }
    later { n = @14; } after @15 { n = @16; } every @17 { n = @18; }
  }
  handler g() { log({a: @19, b: @20}, @21.x, @22[@23], !@24, @25 + @26, @27 ? @28 : @29); }
  effect [@30, @31] { log(@32); } cleanup { log(@33); }
  effect [length(@34), do h(@35)] { log([@37 for i in @36 if @38]); }
  view {
    {@39}
    <b x={@40} y={@41} on click={@42} on key={@43}>{@44}</b>
    <B p={@45} q={@46}>{@47}</B>
    if @48 { {@49} } else { {@50} }
    each i, j in @51 by @52 { {@53} }
    provide c = @54 { {@55} }
    await { {@56} } else { {@57} }
    try { {@58} } catch f { {@59} }
  }
}
component B(p, q) { view {} }
'''
COUNT = 60


def filled(fillings, plain="1"):
    """Returns the program with expressions at some places, and a plain one at all others."""
    source = PLACES
    for index in reversed(range(COUNT)):
        source = source.replace(f"@{index}", fillings.get(index, plain))
    return parse_program(source)


def fault(program):
    if isinstance(program, str):
        program = parse_program(program)
    kept = copy.deepcopy(program)
    found = program_fault(lambda given: Checker(given).check(), program)
    assert program == kept
    assert is_sound(program) is (found is None)
    return found


OTHER = " component B(p, q) { view {} } component C() { context c; view {} }"

# Lines and a view of a component A, and the message of their one fault.
FAULTS = [
    # Names that are used already.
    ("context s;", "", "name s is used already"), ("context a; context a;", "", "name a is used already"),
    ("state s = 1;", "", "name s is used already"), ("state a = 1; state a = 2;", "", "name a is used already"),
    ("context a; state a = 1;", "", "name a is used already"), ("let s = 1;", "", "name s is used already"),
    ("let a = 1; let a = 1;", "", "name a is used already"), ("state a = 1; let a = 1;", "", "name a is used already"),
    ("state a = 1; resource a = 1;", "", "name a is used already"),
    ("let a = 1; resource a = 1;", "", "name a is used already"),
    ("context a; let a = 1;", "", "name a is used already"), ("let p1 = 1;", "", "name p1 is used already"),
    ("context p1;", "", "name p1 is used already"), ("state p1 = 1;", "", "name p1 is used already"),
    ("handler h() {} handler h() {}", "", "name h is used already"),
    ("handler h() {} handler g() {} handler h(a) {}", "", "name h is used already"),
    ("handler h(s) {}", "", "name s is used already"), ("handler h(p1) {}", "", "name p1 is used already"),
    ("state a = 1; handler h(a) {}", "", "name a is used already"),
    ("let a = 1; handler h(a) {}", "", "name a is used already"),
    ("context a; handler h(a) {}", "", "name a is used already"), ("handler h(a, a) {}", "", "name a is used already"),
    ("handler h(a, b, a) {}", "", "name a is used already"),
    ("", "each s in [] {}", "name s is used already"), ("", "each a, s in [] {}", "name s is used already"),
    ("", "each a, a in [] {}", "name a is used already"), ("let a = 1;", "each a in [] {}", "name a is used already"),
    ("", "each a in [] { each a in [] {} }", "name a is used already"),
    ("", "each a, b in [] { each b in [] {} }", "name b is used already"),
    ("", "each a in [] { <b>each c, a in [] {}</b> }", "name a is used already"),
    ("", "try {} catch s {}", "name s is used already"), ("", "try {} catch p1 {}", "name p1 is used already"),
    ("", "each a in [] { try {} catch a {} }", "name a is used already"),
    ("", "try {} catch a { try {} catch a {} }", "name a is used already"),
    ("", "try {} catch a { each a in [] {} }", "name a is used already"),
    ("", "{[1 for s in []]}", "name s is used already"),
    ("", "{[[1 for a in []] for a in []]}", "name a is used already"),
    ("", "{[1 for a in [] if [1 for a in []] == a]}", "name a is used already"),
    ("", "each a in [] { {[1 for a in []]} }", "name a is used already"),
    ("state a = 1; state b = [1 for a in []];", "", "name a is used already"),
    ("handler h(a) { log([1 for a in []]); }", "", "name a is used already"),
    ("let a = 1; effect [[1 for a in []]] {}", "", "name a is used already"),
    # Event is declared nowhere.
    ("context event;", "", "name event is used already"), ("state event = 1;", "", "name event is used already"),
    ("let event = 1;", "", "name event is used already"), ("resource event = 1;", "", "name event is used already"),
    ("handler event() {}", "", "name event is used already"),
    ("handler h(event) {}", "", "name event is used already"),
    ("", "each event in [] {}", "name event is used already"),
    ("", "each a, event in [] {}", "name event is used already"),
    ("", "try {} catch event {}", "name event is used already"),
    ("", "{[1 for event in []]}", "name event is used already"),
    ("handler h() { log([1 for event in []]); }", "", "name event is used already"),
    # Names of pairs.
    ("", "{{a: 1, a: 2}}", "name a is used already"), ("", "{{a: 1, b: 2, a: 2}}", "name a is used already"),
    ("let a = {b: {c: 1, c: 2}};", "", "name c is used already"), ("", '<b x="1" x="1"/>', "name x is used already"),
    ("", "<b x={1} y={1} x={2}></b>", "name x is used already"),
    ("", "<b on x={1} on x={1}/>", "name x is used already"),
    ("", "<B p={1} q={1} p={1}/>", "name p is used already"), ("", '<B p={1} p="x" q={1}/>', "name p is used already"),
    # Names that cannot be used.
    ("let a = x;", "", "unknown name x"), ("state a = a;", "", "unknown name a"),
    ("state a = b; state b = 1;", "", "unknown name b"),
    ("state a = b; let b = 1;", "", "unknown name b"), ("let a = a;", "", "unknown name a"),
    ("let a = b; let b = 1;", "", "unknown name b"),
    ("handler h(a) {}", "{a}", "unknown name a"), ("handler h(a) {} handler g() { log(a); }", "", "unknown name a"),
    ("handler h(a) {} effect [a] {}", "", "unknown name a"), ("handler h() {}", "{h}", "unknown name h"),
    ("", "{A}", "unknown name A"),
    ("", "{length}", "unknown name length"), ("", "{p}", "unknown name p"), ("", "{event}", "unknown name event"),
    ("let a = event;", "", "unknown name event"), ("effect [] { log(event); }", "", "unknown name event"),
    ("effect [event] {}", "", "unknown name event"),
    ("effect [] {} cleanup { log(event); }", "", "unknown name event"),
    ("handler h() { log(event); }", "<b on x={event}/>", "unknown name event"),
    ("", "each a in a {}", "unknown name a"), ("", "each a, b in b {}", "unknown name b"),
    ("", "each a in [] {} {a}", "unknown name a"),
    ("", "each a in [] by b {}", "unknown name b"), ("", "try { {a} } catch a {}", "unknown name a"),
    ("", "try {} catch a {} {a}", "unknown name a"),
    ("", "{[1 for a in a]}", "unknown name a"), ("", "{[1 for a in []] + a}", "unknown name a"),
    ("", "{[a for a in []] == [b for b in a]}", "unknown name a"),
    ("", "{[1 for a in [] if b]}", "unknown name b"), ("", "{[b for a in []]}", "unknown name b"),
    ("", "<B p={1} q={1}>{q}</B>", "unknown name q"),
    ("handler h() { call x(); }", "", "unknown name x"), ("handler h() { call x.y(); }", "", "unknown name x"),
    ("", "{c}", "unknown name c"),
    # Functions.
    ("", "{size(1)}", "unknown function size"), ("", "{A()}", "unknown function A"),
    ("handler h() {}", "{h()}", "unknown function h"),
    ("let a = Length([]);", "", "unknown function Length"), ("", "{size()}", "unknown function size"),
    ("", "{p1(1)}", "unknown function p1"),
    # Handlers, components and contexts.
    ("", "<b on x={do h()}/>", "unknown handler h"), ("handler h() { call s.x(do g()); }", "", "unknown handler g"),
    ("handler h() {}", "{[do g() for a in []]}", "unknown handler g"), ("let a = do a();", "", "unknown handler a"),
    ("", "{do length()}", "unknown handler length"),
    ("", "<X/>", "unknown component X"), ("", "<Bb/>", "unknown component Bb"),
    ("", "<b><X a={1}/></b>", "unknown component X"),
    ("", "provide x = 1 {}", "unknown context x"), ("", "provide s = 1 {}", "unknown context s"),
    ("", "provide p1 = 1 {}", "unknown context p1"),
    ("state a = 1;", "provide a = 1 {}", "unknown context a"),
    # Parameters of uses.
    ("", "<B p={1} q={1} r={1}/>", "unknown parameter r"), ("", "<C p={1}/>", "unknown parameter p"),
    ("", "<C c={1}/>", "unknown parameter c"),
    ("", "<B/>", "parameter p is missing"), ("", "<B q={1}/>", "parameter p is missing"),
    ("", "<B p={1}/>", "parameter q is missing"),
    ("", "<B p={1}>slot</B>", "parameter q is missing"),
    ("", "<B p={1} q={1}><B q={1}/></B>", "parameter p is missing"),
    # Names of a set.
    ("handler h() { x = 1; }", "", "x is no state and no store"),
    ("handler h(a) { a = 1; }", "", "a is no state and no store"),
    ("let a = 1; handler h() { a = 1; }", "", "a is no state and no store"),
    ("context a; handler h() { a = 1; }", "", "a is no state and no store"),
    ("handler h() { p1 = 1; }", "", "p1 is no state and no store"),
    ("handler h() { event = 1; }", "", "event is no state and no store"),
    ("handler h() { h = 1; }", "", "h is no state and no store"),
    ("effect [] { x = 1; }", "", "x is no state and no store"),
    ("effect [] {} cleanup { x = 1; }", "", "x is no state and no store"),
    ("resource a = 1; effect [] { a = 1; }", "", "a is no state and no store"),
]

# Lines and views without a fault.
RIGHT = [
    ("", ""), ("state a = s; state b = a + p1; let d = b; let e = d; resource f = e;", "{a} {b} {d} {e} {f} {s} {p1}"),
    ("context c; state a = c;", "{c} provide c = c { {c} }"), ("handler a() {}", "{do a()}"),
    ("state a = do h(); handler h() {}", "<b on x={a}/>"),
    ("state h = 1; handler h() { h = 1; log(do h()); }", "{h} {do h()}"),
    ("state A = 1; state length = 2;", "{A} {length} {length([])}"),
    ("handler A() {} handler length() {}", "{do A()} {do length()}"),
    ("handler h(a, b) { log(event, a, b, p1, s); s = 1; if event { log(event); } }", ""),
    ("handler h(a) {} handler g(a) {}", "each a in [] {}"),
    ("state a = [b for b in []]; state b = 1;", ""),
    ("let a = [b for b in []]; let b = 1; handler h(c) { log([e for e in []]); }", "each c in [] {} each c in [] {}"),
    ("", "each a, b in [] by b { {a} {b} each c in a { {c} } }"),
    ("", "try { {s} } catch a { {a} } try {} catch a {} {[a for a in [] if a]}"),
    ("", "{[a for a in []] + [a for a in []]}"), ("", "try { each a in [] {} } catch a { {a} }"),
    ("", "{[a for a in [a for a in []]]}"),
    ("", "each a in [a for a in []] { {a} }"), ("", '<b x="1" y="1" on x={null} on y={null}/>'),
    ("", "<b s={1} on s={1}/>"),
    ("", "{{s: 1, event: 2, p1: {s: 1}}}"), ("", "<B p={1} q={1}/> <B q={1} p={1}><C/></B> <A p1={1}/>"),
    ("", "<C>{p1}</C>"),
    ("state a = 1; handler h() { a = 1; s = 1; } effect [a] { a = 2; s = 2; } cleanup { a = 3; }", ""),
    ("state c = 1;", "provide c = c {}"), ("handler h() { call s.x.y(); call p1(); call event.x(1); }", ""),
    ("", "{" + "{" + ", ".join(f"f{i}: {i}" for i in range(50)) + "}" + "}"), ("", "<b event={1} on event={1}/>"),
]


class Checks(unittest.TestCase):
    def a(self, lines, view):
        """Returns the source of a component A with a parameter, among a store and other components."""
        return "store s = 1; " + component(lines, view, parameters="p1") + OTHER

    def test_faults(self):
        for lines, view, message in FAULTS:
            self.assertEqual(fault(self.a(lines, view)), ("A", message), (lines, view))

    def test_right_programs(self):
        for lines, view in RIGHT:
            self.assertIsNone(fault(self.a(lines, view)), (lines, view))
        self.assertIsNone(fault(""))
        self.assertIsNone(fault("store a = 1;"))
        self.assertIsNone(fault("store B = 1; component B() { view {} }"))

    def test_faults_within_other_nodes(self):
        for view in ["<b>@</b>", "<C>@</C>", "if s { @ }", "if s {} else { @ }", "each k in [] { @ }",
                     "provide c = 1 { @ }",
                     "await { @ } else {}", "await {} else { @ }", "try { @ } catch k {}", "try {} catch k { @ }"]:
            self.assertIsNone(fault(self.a("", view.replace("@", "slot"))))
            for lines, inner, message in FAULTS:
                if inner:
                    self.assertEqual(fault(self.a(lines, view.replace("@", inner))), ("A", message), view)

    def test_faults_within_other_statements(self):
        for block in ["@", "if s { @ }", "if s {} else { @ }", "later { @ }", "after 1 { @ }",
                      "every 1 { later { @ } }"]:
            for inner, message in [
                ("x = 1;", "x is no state and no store"), ("log(x);", "unknown name x"),
                ("call s.a(x);", "unknown name x"),
                ("call x();", "unknown name x"), ("s = x;", "unknown name x"), ("if x {}", "unknown name x"),
                ("after x {}", "unknown name x"),
                ("every x {}", "unknown name x"), ("log(do x());", "unknown handler x"),
                ("log(x());", "unknown function x"),
                ("log({a: 1, a: 1});", "name a is used already"), ("log([1 for s in []]);", "name s is used already"),
            ]:
                for line in ["handler h() { @ }", "effect [] { @ }", "effect [] {} cleanup { @ }"]:
                    source = line.replace("@", block.replace("@", inner))
                    self.assertEqual(fault(self.a(source, "")), ("A", message), source)

    def test_expressions_at_each_place(self):
        self.assertIsNone(fault(filled({})))
        for index in range(COUNT):
            for filling, message in [
                ("zz", "unknown name zz"), ("zz(1)", "unknown function zz"),
                ("text()", "text has another number of arguments"),
                ("do zz(1)", "unknown handler zz"), ("{a: 1, a: 2}", "name a is used already"),
                ("[1 for s in []]", "name s is used already"),
                ("[1 for event in []]", "name event is used already"), ("(1 + [zz][0].a)", "unknown name zz"),
                ("f", "unknown name f"),
            ]:
                if index == 59 and filling == "f":
                    self.assertIsNone(fault(filled({index: filling})))
                else:
                    self.assertEqual(fault(filled({index: filling})), ("A", message), (index, filling))

    def test_names_at_each_place(self):
        # For each name, the places at which it can be used.
        for name, places in [
            ("s", range(60)), ("p", range(60)), ("c", range(60)), ("n", range(1, 60)), ("m", range(3, 60)),
            ("d", range(4, 60)),
            ("r", range(5, 60)), ("q", range(5, 19)), ("event", range(5, 30)), ("i", [37, 38, 52, 53]),
            ("j", [52, 53]), ("f", [59]),
            ("h", []), ("A", []), ("B", []), ("click", []),
        ]:
            for index in range(COUNT):
                expected = None if index in places else ("A", f"unknown name {name}")
                self.assertEqual(fault(filled({index: name})), expected, (name, index))
        for index in range(COUNT):
            self.assertIsNone(fault(filled({index: "do g()"})))

    def test_first_of_two_faults(self):
        for first, second in itertools.combinations(range(COUNT), 2):
            self.assertEqual(fault(filled({first: "zz", second: "yy"})), ("A", "unknown name zz"), (first, second))

    def test_order_of_the_parts(self):
        # Each row has parts of a program with one fault each, in the order in which they are told.
        rows = [
            [("store a = 1; store a = 2;", ("", "name a is used already")),
             (component(view="{x}"), ("A", "unknown name x")),
             (component(view="{y}", name="B"), ("B", "unknown name y")),
             (component(name="B"), ("B", "name B is used already"))],
            [(component(view="{x}"), ("A", "unknown name x")),
             (component("context event;"), ("A", "name A is used already"))],
        ]
        for row in rows:
            for size in range(1, len(row) + 1):
                for parts in itertools.combinations(row, size):
                    source = "".join(part[0] for part in parts)
                    if source.count("component B") == 1 and "{y}" not in source:
                        continue
                    if source.count("component A") == 1 and "event" in source:
                        continue
                    self.assertEqual(fault(source), parts[0][1], source)

    def test_order_of_lines(self):
        rows = [
            ("context event;", "name event is used already"), ("context b; context b;", "name b is used already"),
            ("state x = x1;", "unknown name x1"), ("state y = y1;", "unknown name y1"),
            ("let z = z1;", "unknown name z1"),
            ("resource w = w1;", "unknown name w1"), ("handler h(s) {}", "name s is used already"),
            ("handler g() { v1 = 1; }", "v1 is no state and no store"),
            ("handler g2() { log(do no()); }", "unknown handler no"),
            ("effect [u1] {}", "unknown name u1"), ("effect [] { t1 = 1; }", "t1 is no state and no store"),
            ("effect [] {} cleanup { log(r1); }", "unknown name r1"),
        ]
        for first, second in itertools.combinations(rows, 2):
            self.assertEqual(fault(self.a(first[0] + second[0], "{q1}")), ("A", first[1]))
        source = component("context event;", "{x}", parameters="a, a")
        self.assertEqual(fault(source), ("A", "name a is used already"))

    def test_order_within_a_part(self):
        for lines, view, message in [
            # A name comes ahead of what stands in the part.
            ("handler h() {} handler h(s) { x = 1; }", "", "name h is used already"),
            ("handler h(s) { x = 1; }", "", "name s is used already"),
            ("handler h() { x = y; }", "", "x is no state and no store"),
            ("handler h() { call x(y); }", "", "unknown name x"),
            ("", "{zz(x)}", "unknown function zz"), ("", "{text(x, y)}", "text has another number of arguments"),
            ("", "{zz()}", "unknown function zz"),
            ("", "{do zz(x)}", "unknown handler zz"), ("", "{text(x)}", "unknown name x"),
            ("", "provide x = y { {z} }", "unknown context x"),
            ("", "provide c = y { {z} }", "unknown name y"), ("", "<X p={y}>{z}</X>", "unknown component X"),
            # A cell or definition: its expression, then its name.
            ("state s = x;", "", "unknown name x"), ("let s = x;", "", "unknown name x"),
            ("resource event = x;", "", "unknown name x"),
            ("state a = 1; state a = a;", "", "name a is used already"),
            # Pairs: the name, then the expression.
            ("", "{{a: x, a: 1}}", "unknown name x"), ("", "{{a: 1, a: x}}", "name a is used already"),
            ("", "{{a: 1, b: x, a: 2}}", "unknown name x"),
            ("", "<b x={1} x={y}/>", "name x is used already"), ("", "<b x={y} x={1}/>", "unknown name y"),
            ("", "<b x={1} x={1} on y={z}/>", "name x is used already"),
            ("", "<b x={z} on y={1} on y={1}/>", "unknown name z"),
            ("", "<b on y={1} on y={1}>{z}</b>", "name y is used already"),
            # Uses: what they give, then what is missing, then their kids.
            ("", "<B r={x}/>", "unknown parameter r"), ("", "<B p={x} r={1}/>", "unknown name x"),
            ("", "<B p={x}/>", "unknown name x"),
            ("", "<B p={1} r={1}/>", "unknown parameter r"), ("", "<B r={1} r={1}/>", "unknown parameter r"),
            ("", "<B p={1} p={x}/>", "name p is used already"),
            ("", "<B q={1}>{x}</B>", "parameter p is missing"), ("", "<B p={1}>{x}</B>", "parameter q is missing"),
            ("", "<B p={1} q={1}>{x}</B>", "unknown name x"),
            # An each and a gathering: the list, then the names, then the rest.
            ("", "each s in x by y { {z} }", "unknown name x"),
            ("", "each s, event in [] by y { {z} }", "name s is used already"),
            ("", "each a, s in [] by y { {z} }", "name s is used already"),
            ("", "each a in [] by y { {z} }", "unknown name y"),
            ("", "{[y for s in x if z]}", "unknown name x"), ("", "{[y for s in [] if z]}", "name s is used already"),
            ("", "{[y for a in [] if z]}", "unknown name y"),
            ("", "{[1 for a in [] if z]}", "unknown name z"),
            # A try: its nodes, the name, the other nodes.
            ("", "try { {x} } catch s { {y} }", "unknown name x"),
            ("", "try {} catch s { {y} }", "name s is used already"), ("", "try {} catch a { {y} }", "unknown name y"),
            ("", "await { {x} } else { {y} }", "unknown name x"), ("", "if x { {y} } else { {z} }", "unknown name x"),
            ("", "{x ? y : z}", "unknown name x"),
            ("effect [x] { y = 1; } cleanup { z = 1; }", "", "unknown name x"),
            ("effect [] { y = 1; } cleanup { z = 1; }", "", "y is no state and no store"),
            ("handler h() { if x { y = 1; } else { z = 1; } }", "", "unknown name x"),
            ("handler h() { if s { y = 1; } else { z = 1; } }", "", "y is no state and no store"),
        ]:
            self.assertEqual(fault(self.a(lines, view)), ("A", message), (lines, view))

    def test_stores(self):
        for source, expected in [
            ("store a = 1; store b = 2;", None),
            ("store a = 1; store b = 2; store a = 3;", ("", "name a is used already")),
            ("store event = 1;", ("", "name event is used already")), ("store A = 1; store a = 1;", None),
        ]:
            self.assertEqual(fault(source), expected)
            self.assertEqual(fault(source + component(view="{x}")), expected or ("A", "unknown name x"))

    def test_stores_that_are_too_large(self):
        too_large = ("", "too large")
        row = ", ".join(["1"] * 200)
        for value, expected in [
            ("[" + row + "]", None), ("[" + row + ", 1]", too_large), ("[[" + row + "]]", None),
            ("[[], [" + row + ", 1]]", too_large),
            ("{a: {b: [" + row + "]}}", None), ("{a: {b: [" + row + ", 1]}}", too_large),
            ("[" + ", ".join(["null"] * 201) + "]", too_large),
            ('"' + "x" * 1999 + '"', None), ('"' + "x" * 2000 + '"', too_large), ('"' + "\\n" * 1999 + '"', None),
            ('"' + "\\n" * 2000 + '"', too_large),
            ('["' + "x" * 1998 + '"]', None), ('["' + "x" * 1999 + '"]', too_large),
            ('["", "' + "x" * 1997 + '"]', None), ('["", "' + "x" * 1998 + '"]', too_large),
            ("{" + "x" * 1998 + ": 1}", None), ("{" + "x" * 1999 + ": 1}", too_large),
            ("{x: {" + "y" * 1996 + ": true}}", None), ("{x: {" + "y" * 1997 + ": true}}", too_large),
            ("{" + ", ".join(f"f{i:03}: 1" for i in range(399)) + "}", None),
            ("{" + ", ".join(f"f{i:03}: 1" for i in range(400)) + "}", too_large),
            ("{" + ", ".join(f"f{i}: null" for i in range(10, 211)) + "}", None),
            ("[" + ", ".join(["[" + row + "]"] * 9) + "]", None),
            ("[" + ", ".join(["[" + row + "]"] * 10) + "]", too_large),
        ]:
            self.assertEqual(fault(f"store a = {value};"), expected, value[:50])
            self.assertEqual(fault(f"store b = 1; store a = {value}; store b = 2;"),
                             expected or ("", "name b is used already"))
            self.assertEqual(fault(f"store a = 1; store a = {value};"), ("", "name a is used already"))

    def test_too_many_parts(self):
        def lines(contexts=0, states=0, lets=0, resources=0, handlers=0, effects=0):
            rows = [f"context c{i};" for i in range(contexts)] + [f"state s{i} = 1;" for i in range(states)]
            rows += [f"let l{i} = 1;" for i in range(lets)] + [f"resource r{i} = 1;" for i in range(resources)]
            rows += [f"handler h{i}() {{}}" for i in range(handlers)] + ["effect [] {}"] * effects
            return " ".join(rows)

        too_many = ("A", "too many parts")
        for counts, parameters, expected in [
            ({"contexts": 20}, 0, None), ({"contexts": 21}, 0, too_many), ({"states": 20}, 0, None),
            ({"states": 21}, 0, too_many),
            ({"lets": 20}, 0, None), ({"lets": 21}, 0, too_many), ({"resources": 20}, 0, None),
            ({"resources": 21}, 0, too_many),
            ({}, 20, None), ({}, 21, too_many), ({"contexts": 4, "states": 4, "lets": 4, "resources": 4}, 4, None),
            ({"contexts": 4, "states": 4, "lets": 4, "resources": 4}, 5, too_many),
            ({"contexts": 5, "states": 4, "lets": 4, "resources": 4}, 4, too_many),
            ({"contexts": 4, "states": 5, "lets": 4, "resources": 4}, 4, too_many),
            ({"contexts": 4, "states": 4, "lets": 5, "resources": 4}, 4, too_many),
            ({"contexts": 4, "states": 4, "lets": 4, "resources": 5}, 4, too_many), ({"handlers": 20}, 0, None),
            ({"handlers": 21}, 0, too_many),
            ({"effects": 10}, 0, None), ({"effects": 11}, 0, too_many),
            ({"states": 20, "handlers": 20, "effects": 10}, 0, None),
        ]:
            names = ", ".join(f"p{i}" for i in range(parameters))
            self.assertEqual(fault(component(lines(**counts), parameters=names)), expected, counts)
            # It is told ahead of what stands in the component, and behind its name.
            self.assertEqual(fault(component(lines(**counts), "{x}", parameters=names)),
                             expected or ("A", "unknown name x"))
            self.assertEqual(fault(component() + component(lines(**counts), parameters=names)),
                             ("A", "name A is used already"))

    def test_functions(self):
        self.assertEqual(Checker.FUNCTIONS, FUNCTIONS)
        self.assertEqual(Checker(parse_program("")).FUNCTIONS, FUNCTIONS)
        for name, count in FUNCTIONS:
            for given in range(5):
                source = name + "(" + ", ".join(["1"] * given) + ")"
                expected = None if given == count else ("A", f"{name} has another number of arguments")
                self.assertEqual(fault(component(view="{" + source + "}")), expected)
                self.assertEqual(fault(component(f"state {name} = {source};")), expected)

    def test_component_whose_name_is_used_already(self):
        self.assertEqual(fault(component() + component(name="B") + component()), ("A", "name A is used already"))
        self.assertEqual(fault(component(name="B", view="{x}") + component(name="B")), ("B", "unknown name x"))

    def test_context_of_any_component(self):
        self.assertIsNone(fault(component(view="provide t = 1 {}") + component("context t;", name="B")))
        self.assertIsNone(fault(component("context t;", "provide t = t {}")))
        self.assertEqual(fault(component(view="provide t = 1 {}") + component("state t = 1;", name="B")),
                         ("A", "unknown context t"))

    def test_handlers_of_other_components(self):
        source = component(view="{do h()}") + component("handler h() {}", name="B")
        self.assertEqual(fault(source), ("A", "unknown handler h"))
        source = component("handler h() {}") + component(view="{do h()}", name="B")
        self.assertEqual(fault(source), ("B", "unknown handler h"))

    def test_names_of_other_components(self):
        source = component("state n = 1; let m = 1;", parameters="p") + component("handler h() { n = 1; }", name="B")
        self.assertEqual(fault(source), ("B", "n is no state and no store"))
        for name in ("n", "m", "p"):
            source = component("state n = 1; let m = 1;", parameters="p") + component(view="{" + name + "}", name="B")
            self.assertEqual(fault(source), ("B", f"unknown name {name}"))

    def test_uses_of_components_further_on_and_of_itself(self):
        self.assertIsNone(fault(component(view="<A a={1}/> <B/>", parameters="a") + component(name="B")))
        self.assertEqual(fault(component(view="<A/>", parameters="a")), ("A", "parameter a is missing"))

    def test_order_of_components(self):
        parts = [component("context t;", "<B p={1}/>"),
                 component(view="provide t = 1 { slot }", name="B", parameters="p"),
                 component(view="<A/> <C/>", name="C"),
                 component("state n = 1; handler h() { n = 2; s = 1; }", name="D")]
        wrong = [component(view="<B/>", name="C"), component(view="{x}", name="D")]
        for order in itertools.permutations(parts):
            self.assertIs(is_sound(parse_program("store s = 1;" + "".join(order))), True)
        for part in wrong:
            for order in itertools.permutations([*parts[:2], part]):
                self.assertIs(is_sound(parse_program("".join(order))), False)

    def test_order_of_components_by_chance(self):
        sound = 0
        for seed in range(400):
            program = Maker(seed).program(1)
            names = [part["name"] for part in program["components"]]
            if len(names) != len(set(names)):
                continue
            answers = {is_sound({**program,
                                 "components": list(order)}) for order in itertools.permutations(program["components"])}
            self.assertEqual(len(answers), 1)
            sound += True in answers
        self.assertGreater(sound, 5)

    def test_checking_again(self):
        checker = Checker(parse_program(component() + component()))
        for _ in range(3):
            self.assertEqual(program_fault(lambda given: given.check(), checker), ("A", "name A is used already"))
        checker = Checker(parse_program(self.a("", "")))
        self.assertIsNone(checker.check())
        self.assertIsNone(checker.check())

    def test_sample(self):
        program = parse_program(samples.WHOLE)
        self.assertIsNone(fault(program))
