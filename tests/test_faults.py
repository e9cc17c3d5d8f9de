"""The faults of the grammar ([7])."""

from tests import samples
from tests.helpers import SourceCase, component, source_of
from viewloom.errors import InvalidSource
from viewloom.words.reading import parse_expression, parse_program
from viewloom.words.tokens import tokens

# In each source, "@" stands ahead of the token at which the fault is.
PROGRAMS = [
    ("@1", "component"), ("@view", "component"), ("@;", "component"), ('@"store"', "component"),
    ("store a = 1; @let", "component"), ("component A() { view {} } @store a = 1;", "component"),
    ("component A() { view {} } @}", "component"), ("store @= 1;", "a name"), ("store @view = 1;", "a name"),
    ("store @1 = 1;", "a name"), ('store @"a" = 1;', "a name"), ("store a @1;", "="), ("store a @== 1;", "="),
    ("store a = 1 @}", ";"), ("store a = 1 @+ 2;", ";"), ("store a = @;", "a constant"),
    ("store a = @b;", "a constant"), ("store a = @(1);", "a constant"), ("store a = @!true;", "a constant"),
    ("store a = @</b>;", "a constant"), ("store a = -@-1;", "a number"), ("store a = -@true;", "a number"),
    ("store a = -@;", "a number"), ("store a = [@,];", "a constant"), ("store a = [1, @];", "a constant"),
    ("store a = [1 @2];", "]"), ("store a = [1 @for b in c];", "]"), ("store a = [1 @};", "]"),
    ("store a = {@1: 2};", "a name"), ("store a = {@,};", "a name"), ("store a = {a: 1, @};", "a name"),
    ("store a = {a @1};", ":"), ("store a = {a: @};", "a constant"), ("store a = {a: 1 @b: 2};", "}"),
    ("store a = {@view: 1};", "a name"), ("component @a() {}", "a capital name"),
    ("component @() {}", "a capital name"), ("component @1() {}", "a capital name"),
    ("component @view() {}", "a capital name"), ('component @"A"() {}', "a capital name"),
    ("component @aB() {}", "a capital name"), ("component A @{", "("), ("component A(@1) {", "a name"),
    ("component A(@,) {", "a name"), ("component A(a, @) {", "a name"), ("component A(a @b) {", ")"),
    ("component A(a @;", ")"), ("component A() @view", "{"), ("component A() { @}", "view"),
    ("component A() { @component B() {} }", "view"), ("component A() { @a = 1; }", "view"),
    ("component A() { context @1; view {} }", "a name"), ("component A() { context a @, b; view {} }", ";"),
    ("component A() { state a = 1; @context b; view {} }", "view"),
    ("component A() { let a = 1; @state b = 1; view {} }", "view"),
    ("component A() { handler a() {} @let b = 1; view {} }", "view"),
    ("component A() { effect [] {} @handler b() {} view {} }", "view"),
    ("component A() { view {} @effect [] {} }", "}"), ("component A() { view {} @view {} }", "}"),
    ("component A() { view @<p/> }", "{"), ("component A() { view @slot }", "{"),
    ("component A() { state @true = 1; view {} }", "a name"), ("component A() { state a @; view {} }", "="),
    ("component A() { state a = @; view {} }", "an expression"),
    ("component A() { state a = 1 @state b = 2; view {} }", ";"), ("component A() { let @= 1; view {} }", "a name"),
    ("component A() { resource a @1; view {} }", "="), ("component A() { handler @1() {} view {} }", "a name"),
    ("component A() { handler a @{} view {} }", "("), ("component A() { handler a(@1) {} view {} }", "a name"),
    ("component A() { handler a(b @c) {} view {} }", ")"), ("component A() { handler a() @; view {} }", "{"),
    ("component A() { effect @a {} view {} }", "["), ("component A() { effect [@,] {} view {} }", "an expression"),
    ("component A() { effect [1 @2] {} view {} }", "]"), ("component A() { effect [1 @for a in b] {} view {} }", "]"),
    ("component A() { effect [] @view {} }", "{"), ("component A() { effect [] {} cleanup @; view {} }", "{"),
    ("component A() { effect [] {} @else {} view {} }", "view"),
]
STATEMENTS = [
    ("@1;", "a statement"), ("@;", "a statement"), ("@slot;", "a statement"), ("@else {}", "a statement"),
    ("@{}", "a statement"), ('@"a";', "a statement"), ("@(a) = 1;", "a statement"), ("stop; @]", "a statement"),
    ("@view {}", "a statement"), ("@do a();", "a statement"), ("a @;", "="), ("a @.b = 1;", "="), ("a @== 1;", "="),
    ("a = @;", "an expression"), ("a = 1 @}", ";"), ("a = 1 @b = 2;", ";"), ("call @(a)();", "a name"),
    ("call @1();", "a name"), ("call @do a();", "a name"), ("call a @;", "("), ("call a @b();", "("),
    ("call a.@1();", "a name"), ("call a.@view();", "a name"), ("call a @[1]();", "("),
    ("call a(@,);", "an expression"), ("call a(1 @2);", ")"), ("call a(1, @);", "an expression"),
    ("call a() @.b();", ";"), ("call a() @}", ";"), ("log @;", "("), ("log(@;", "an expression"), ("log(1 @;", ")"),
    ("log() @}", ";"), ("log() @log();", ";"), ("stop @(); ", ";"), ("stop @}", ";"), ("prevent @stop;", ";"),
    ("if @) {}", "an expression"), ("if a @stop;", "{"), ("if a {} else @if b {}", "{"), ("if a {} else @stop;", "{"),
    ("if a { @1 }", "a statement"), ("if a {} else {} @else {}", "a statement"), ("later @stop;", "{"),
    ("later @1 {}", "{"), ("after @; {}", "an expression"), ("after 1 @stop;", "{"), ("every @= {}", "an expression"),
    ("every 1 @;", "{"), ("later {} @;", "a statement"), ("if a {} @;", "a statement"),
]
NODES = [
    ("@a", "a node"), ("@1", "a node"), ("@)", "a node"), ("@/>", "a node"), ("@else {}", "a node"),
    ("@catch a {}", "a node"), ("slot @;", "a node"), ("@state a = 1;", "a node"), ("@[1]", "a node"),
    ("{@}", "an expression"), ("{a @b}", "}"), ("{a @;}", "}"), ("{@slot}", "an expression"), ("<@1/>", "a tag"),
    ("<@aB/>", "a tag"), ("<@view/>", "a tag"), ("<@>", "a tag"), ('<@"p"/>', "a tag"), ("<@<p/>", "a tag"),
    ("<@/>", "a tag"), ("<@slot/>", "a tag"), ("<p a@/>", "="), ("<p a @b=1/>", "="), ("<p a=@1/>", "{"),
    ("<p a=@b/>", "{"), ("<p a=@(b)/>", "{"), ("<p a=@/>", "{"), ("<p a={@}/>", "an expression"),
    ("<p a={b @c}/>", "}"), ('<p a="x" @1/>', ">"), ("<p @aB={1}/>", ">"), ('<p @"x"/>', ">"), ("<p @view={1}/>", ">"),
    ("<p @A={1}/>", ">"), ("<p @slot/>", ">"), ("<p @{a}/>", ">"), ("<p @/ >", ">"), ("<p on @=\"x\"/>", "a tag"),
    ("<p on @Click={1}/>", "a tag"), ("<p on @view={1}/>", "a tag"), ("<p on a @{1}/>", "="), ('<p on a=@"x"/>', "{"),
    ("<p on a=@b/>", "{"), ("<p on a={@}/>", "an expression"), ("<p on a={b @c}/>", "}"),
    ("<p on a={1} @b={2}/>", ">"), ("<p on a={1} @1/>", ">"), ("<p on a={1} @</p>", ">"), ("<P @on a={1}/>", ">"),
    ("<P @1/>", ">"), ("<P a @b/>", "="), ("<P Ab=@1/>", "{"), ("<P Ab={@}/>", "an expression"),
    ("<P Ab={1} @on/>", ">"), ("<P @</P>", ">"), ("<p>@}", "a node"), ("<p>@a</p>", "a node"), ("<p>@></p>", "a node"),
    ("<P>@1</P>", "a node"), ("<p>@</b>", "</p"), ("<p>@</P>", "</p"), ("<P>@</p>", "</P"), ("<P>@</Pq>", "</P"),
    ("<p><b>@</p></b>", "</b"), ("<p>slot @</view>", "</p"), ("<p></p @/>", ">"), ("<p></p @a>", ">"),
    ("<p></p @}", ">"), ("if @) {}", "an expression"), ("if a @slot", "{"), ("if a {} else @slot", "{"),
    ("if a {} else @if b {}", "{"), ("if a { @stop; }", "a node"), ("if a {} else {} @else {}", "a node"),
    ("each @1 in a {}", "a name"), ("each @in a {}", "a name"), ("each a @of b {}", "in"),
    ("each a, @1 in b {}", "a name"), ("each a, @in b {}", "a name"), ("each a, b @, c in d {}", "in"),
    ("each a in @) {}", "an expression"), ("each a in b @slot", "{"), ("each a in b @if c {}", "{"),
    ("each a in b by @; {}", "an expression"), ("each a in b by c @slot", "{"), ("each a in b by c @by d {}", "{"),
    ("provide @1 = a {}", "a name"), ("provide a @{}", "="), ("provide a = @; {}", "an expression"),
    ("provide a = b @slot", "{"), ("await @slot else {}", "{"), ("await {} @slot", "else"),
    ("await {} @catch a {}", "else"), ("await {} else @slot", "{"), ("try @slot", "{"), ("try {} @else {}", "catch"),
    ("try {} catch @{}", "a name"), ("try {} catch @1 {}", "a name"), ("try {} catch a @slot", "{"),
]
EXPRESSIONS = [
    ("@)", "an expression"), ("@]", "an expression"), ("@,", "an expression"), ("@;", "an expression"),
    ("@view", "an expression"), ("@</a", "an expression"), ("@for", "an expression"), ("@/>", "an expression"),
    ("@+ 1", "an expression"), ("@= 1", "an expression"), ("a + @)", "an expression"), ("a * @+ b", "an expression"),
    ("a == @== b", "an expression"), ("!@)", "an expression"), ("-@* 1", "an expression"), ("(@)", "an expression"),
    ("(a @]", ")"), ("(a @b)", ")"), ("(a@, b)", ")"), ("a ? @: b", "an expression"), ("a ? b @)", ":"),
    ("a ? b @, c", ":"), ("a ? b : @)", "an expression"), ("a.@1", "a name"), ("a.@view", "a name"),
    ("a.@(b)", "a name"), ('a.@"b"', "a name"), ("a[@]", "an expression"), ("a[1 @2]", "]"), ("a[1@, 2]", "]"),
    ("a[1 @for b in c]", "]"), ("a[1 @}", "]"), ("f(@,)", "an expression"), ("f(1 @2)", ")"),
    ("f(1, @)", "an expression"), ("f(1 @]", ")"), ("f(1 @for a in b)", ")"), ("do @1()", "a name"),
    ("do @(a)", "a name"), ("do @view()", "a name"), ("do a@", "("), ("do a @b", "("), ("do a @.b()", "("),
    ("do a(@;)", "an expression"), ("do a(1 @;)", ")"), ("[@,]", "an expression"), ("[1, @]", "an expression"),
    ("[1 @2]", "]"), ("[1 @}", "]"), ("[1 @if a]", "]"), ("[1, 2 @for a in b]", "]"), ("[1 for @1 in b]", "a name"),
    ("[1 for @in b]", "a name"), ("[1 for a @= b]", "in"), ("[1 for a@, b in c]", "in"),
    ("[1 for a in @]", "an expression"), ("[1 for a in b @, 2]", "]"), ("[1 for a in b @for c in d]", "]"),
    ("[1 for a in b if @]", "an expression"), ("[1 for a in b if c @if d]", "]"), ("[1 for a in b if c @, 1]", "]"),
    ("{@1: 2}", "a name"), ('{@"a": 2}', "a name"), ("{@view: 2}", "a name"), ("{@,}", "a name"),
    ("{a: 1, @}", "a name"), ("{a @1}", ":"), ("{a@, b}", ":"), ("{a: @}", "an expression"), ("{a: 1 @b: 2}", "}"),
    ("{a: 1 @]", "}"), ("a @b", "the end"), ("1 @2", "the end"), ("(a) @)", "the end"), ("a @;", "the end"),
    ("a @= b", "the end"), ("a @: b", "the end"), ("[] @{}", "the end"), ("a.b @(c)", "the end"),
    ("(a) @(c)", "the end"), ("a @!b", "the end"), ("a @</b", "the end"), ("f() @()", "the end"),
]
PLACES = [
    (parse_program, "", PROGRAMS, ""),
    (parse_program, "component A() { handler a() {\n stop; ", STATEMENTS, " } view {} }"),
    (parse_program, "component A() { effect [] {} cleanup { ", STATEMENTS, " } view {} }"),
    (parse_program, "store a = 1;\ncomponent A() {\n view { ", NODES, " } }"),
    (parse_program, "component A() { view { <p>slot <b>{a}</b> ", NODES, " </p> } }"),
    (parse_expression, "", EXPRESSIONS, ""),
]


class GrammarFaults(SourceCase):
    def check(self, call, source, expected):
        """Checks the fault of a source in which "@" stands ahead of a token."""
        at = source.index("@")
        source = source.replace("@", "", 1)
        line = source.count("\n", 0, at) + 1
        column = at - source.rfind("\n", 0, at)
        if source[at:].strip() == "":
            self.assert_fault(call, source, tokens(source)[-1][2], tokens(source)[-1][3], "unexpected end")
        else:
            self.assert_fault(call, source, line, column, "expected " + expected)

    def test_each_fault(self):
        for call, ahead, rows, behind in PLACES:
            for source, expected in rows:
                self.check(call, ahead + source + behind, expected)

    def test_texts_in_place_of_other_tokens(self):
        # A text with the word of a sign, a name or a closing is none of these.
        program = parse_program(samples.WHOLE)
        found = tokens(samples.WHOLE)
        for index, token in enumerate(found[:-1]):
            if token[0] != "text":
                row = [source_of(other) for other in found]
                row[index] = '"' + token[1] + '"'
                source = " ".join(row)
                at = len(" ".join(row[:index])) + (index > 0)
                try:
                    self.assertNotEqual(parse_program(source), program, token)
                except InvalidSource as error:
                    self.assertGreaterEqual(error.column, at + 1)
                    self.assertTrue(error.message.startswith(("expected ", "unexpected end")), error.message)
        self.check(parse_expression, 'a @"+" b', "the end")
        self.check(parse_program, 'store a = {a: 1, @"a": 2};', "a name")

    def test_closings_at_the_wrong_place(self):
        self.check(parse_program, "component A() { view { @</p> } }", "a node")
        self.check(parse_program, "component A() { view { <b>if a { @</b> } } }", "a node")
        self.check(parse_program, "component A() { view { <b>@</p> } }", "</b")

    def test_faults_of_expressions_in_programs(self):
        for source, expected in EXPRESSIONS:
            if expected != "the end" and source.strip("@ ") != "" and not source.endswith("@"):
                self.check(parse_program, component("let a = " + source), expected)
                self.check(parse_program, component(view="<p a={" + source), expected)

    def test_right_sources_that_look_wrong(self):
        for source in ("a(b)", "a ? b ? c : 1 : 2", "a ? b : c ? 1 : 2"):
            parse_expression(source)
        parse_program(component("handler a() { if {} {} }", "each a in {} {}"))

    def test_end_ahead_of_each_token(self):
        for source in (samples.WHOLE, samples.CANONICAL):
            lines = source.split("\n")
            outside = 0
            for sort, word, line, column in tokens(source):
                cut = "\n".join([*lines[:line - 1], lines[line - 1][:column - 1]])
                end = tokens(cut)[-1]
                # Between the parts of a program it may end.
                if word in ("store", "component", ""):
                    outside += sort != "text"
                if sort != "text" and word in ("store", "component", ""):
                    parse_program(cut)
                else:
                    self.assert_fault(parse_program, cut, end[2], end[3], "unexpected end")
            self.assertEqual(outside, 5)

    def test_end_of_expressions(self):
        for source in ["[a for b in c.d if e[1]]", "{a: -1, b: !(c)}", "f(1, 2) ? do h(3) : null", "a.b[c]",
                       "1 + 2 * 3"]:
            found = tokens(source)
            for index in range(len(found) - 1):
                cut = source[:found[index][3] - 1]
                if cut.strip() in ("", "a", "a.b", "f(1, 2)", "1", "1 + 2") and cut.strip() != "":
                    parse_expression(cut)
                elif cut.strip() == "f":
                    self.assertEqual(parse_expression(cut), ("name", "f"))
                else:
                    self.assert_fault(parse_expression, cut, 1, len(cut) + 1, "unexpected end")

    def test_fields_that_stand_twice(self):
        for source, column in [
            ("{a: 1, a: 2};", 8), ("{a: {b: 1, b", 12), ("[{A: 1, b: 2, A: A", 15), ("{a: 1, a", 8), ("{a: 1, a }", 8),
        ]:
            self.assert_fault(parse_program, "store x =\n" + source, 2, column, "field stands twice")
        program = parse_program("store x = {a: {a: 1}, b: {a: 2}};")
        self.assertEqual(program["stores"], [("x", {"a": {"a": 1}, "b": {"a": 2}})])

    def test_first_token_that_does_not_fit_counts(self):
        self.assert_fault(parse_program, "store a = {a: 1, a: } ]", 1, 18, "field stands twice")
        self.assert_fault(parse_program, "store a 1 = {a: 1, a: 2};", 1, 9, "expected =")
        self.assert_fault(parse_program, "store a = [{a: 1 a: 2}];", 1, 18, "expected }")

    def test_fault_in_a_later_part(self):
        source = samples.CANONICAL + "component B() {\n  view {\n    <p>\n    </q>\n  }\n}\n"
        line = samples.CANONICAL.count("\n") + 4
        self.assert_fault(parse_program, source, line, 5, "expected </p")
