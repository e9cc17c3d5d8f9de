"""Passes: matching, and what is made of each kind of description ([47])."""

import copy
import unittest

from tests.helpers import expression, nodes, shares
from tests.passes import Show, told
from viewloom.passes.instances import image, walk
from viewloom.passes.passing import Pass

EVERY = """
component Main() {
  state n = 0;
  handler go(k) { n = n + k; }
  view {
    "a"
    <p b={n} a="x" on click={do go(n)}>{n} <b/></p>
    <Sub x={n} y={[n]}>"in" {n}</Sub>
    provide theme = {t: n} { <Sub x={1} y={2}/> }
    await { "ready" <Sub x={3} y={4}/> } else { "wait" }
    try { "fine" <Sub x={5} y={6}/> } catch f { {f.message} }
  }
}
component Sub(x, y) { context theme; state m = x; view { <i>{m} {theme == null ? "none" : theme.t}</i> slot } }
"""


class New(unittest.TestCase):
    def test_every_kind(self):
        show = Show(EVERY)
        self.assertEqual(show.go(), (
            "1Main[2'a' 3p[4'0' 5b] 6Sub[7i[8'0' 9'none'] 10'in' 11'0'] 12=theme[13Sub[14i[15'1' 16'0']]] "
            "17await[18'ready' 19Sub[20i[21'3' 22'none']]] 23try[24'fine' 25Sub[26i[27'5' 28'none']]]]"))
        self.assertEqual((show.made.next_id, show.made.rendered, show.made.asked, show.made.cost),
                         (29, [1, 6, 13, 19, 25], [], 5))

    def test_fields(self):
        show = Show(EVERY)
        show.next_id = 100
        self.assertEqual(show.go()[:5], "100Ma")
        main = show.tree
        self.assertEqual((main.form, main.number, main.key, main.name), ("component", 100, "", "Main"))
        self.assertEqual((main.parameters, main.slot, main.env), ({}, (), {"n": 0}))
        self.assertEqual([(cell.name, cell.base, cell.present, cell.queue) for cell in main.cells], [("n", 0, 0, [])])
        self.assertEqual((main.wanted, main.runs, main.waits, main.tries), ([], [], False, None))
        text, element, sub, provide, wait, tried = main.kids
        self.assertEqual((text.form, text.key, text.text, text.name, text.kids), ("text", "0", "a", None, []))
        self.assertEqual((element.form, element.name, element.key), ("element", "p", "1"))
        self.assertEqual(element.attributes, [("a", "x"), ("b", "0")])
        self.assertEqual(element.acts, [("click", ("act", 100, "go", [0]))])
        self.assertEqual((sub.form, sub.name, sub.key), ("component", "Sub", "2"))
        self.assertEqual((sub.parameters, sub.slot), ({"x": 0, "y": [0]}, (("text", "0", "in"), ("text", "1", "0"))))
        self.assertEqual(sub.env, {"x": 0, "y": [0], "theme": None, "m": 0})
        self.assertEqual([kid.key for kid in sub.kids], ["0", "1*/0", "1*/1"])
        self.assertEqual((provide.form, provide.name, provide.provided, provide.key),
                         ("provide", "theme", {"t": 0}, "3"))
        self.assertEqual((wait.form, wait.name, wait.waits, wait.fallback, wait.key), ("await", None, False, [], "4"))
        self.assertEqual((tried.form, tried.name, tried.message, tried.failed_at, tried.key),
                         ("try", None, None, 0, "5"))
        self.assertEqual((tried.tries.name, tried.tries.base, tried.tries.present, tried.tries.queue),
                         ("tries", [0, None], [0, None], []))
        self.assertEqual([description[0] for description in main.described],
                         ["text", "element", "use", "provide", "await", "try"])

    def test_the_environment_and_its_order(self):
        show = Show("""
store s = [1];
store t = 2;
component Main(b, a) {
  context y; context x; state m = [a, b, s, x]; state k = m + [y]; let d = length(k); let c = d + 1;
  view { {c} }
}
""", {"a": "A", "b": "B"})
        show.go()
        env = show.tree.env
        self.assertEqual(env, {"s": [1], "t": 2, "b": "B", "a": "A", "y": None, "x": None, "m": ["A", "B", [1], None],
                               "k": ["A", "B", [1], None, None], "d": 5, "c": 6})
        self.assertEqual(list(env), ["s", "t", "b", "a", "y", "x", "m", "k", "d", "c"])
        self.assertEqual(image([show.tree]), [("text", 2, "6")])

    def test_stores_are_those_that_are_given(self):
        show = Show("store s = 1; component Main() { view { {s} } }")
        show.stores = {"s": "now"}
        self.assertEqual(show.go(), "1Main[2'now']")

    def test_owners(self):
        show = Show("""
component Main() { handler go() {} view { "x" <Sub a={do go()}>{text(do go() == null)} <i on click={do go()}/></Sub> } }
component Sub(a) { state own = do go(); let b = do go(); handler go() {} effect [do go()] {}
  view { slot <b on a={a} on own={own} on b={b}/> } }
""")
        show.go()
        sub = show.named("Sub")
        self.assertEqual((show.tree.number, sub.number), (1, 3))
        self.assertEqual(sub.wanted, [[("act", 3, "go", [])]])
        self.assertEqual(show.named("i").acts, [("click", ("act", 1, "go", []))])
        self.assertEqual([act[1] for _, act in show.named("b").acts], [1, 3, 3])

    def test_contexts(self):
        show = Show("""
component Main() { view {
  <Sub/>
  provide a = 1 { <Sub/> provide b = 2 { <p>provide a = 3 { <Sub/> } <Sub/></p> } provide a = null { <Sub/> } <Sub/> }
  provide b = 4 { <Wrap><Sub/></Wrap> }
  <Wrap><Sub/></Wrap>
  provide a = 8 { await { <Sub/> } else {} try { <Sub/> } catch f {} }
} }
component Wrap() { view { provide a = 9 { slot } } }
component Sub() { context b; context a; view { {text(a) + "," + b} } }
""")
        show.go()
        shown = [one.text for one in walk([show.tree]) if one.form == "text"]
        self.assertEqual(shown, [",", "1,", "3,2", "1,2", ",", "1,", "9,4", "9,", "8,", "8,"])

    def test_missing_parameters_of_the_root(self):
        show = Show("component Main(a, b) { view { {a == null} {b} } }", {"b": 1})
        self.assertEqual(show.go(), "1Main[2'true' 3'1']")
        self.assertEqual(show.tree.env, {"a": None, "b": 1})


class Matching(unittest.TestCase):
    def test_nothing_changes(self):
        show = Show(EVERY)
        first = show.go()
        self.assertEqual(show.go(), first)
        self.assertEqual((show.rendered, show.made.next_id, show.made.cost), ([], 29, 1))

    def test_all_kinds_keep_their_ids(self):
        show = Show(EVERY)
        first = show.go()
        self.assertTrue(show.send("Main", "n", expression("7")))
        second = show.go()
        for old, new in [("4'0'", "4'7'"), ("11'0'", "11'7'"), ("16'0'", "16'7'")]:
            first = first.replace(old, new)
        self.assertEqual(second, first)
        self.assertEqual(show.find(3).attributes, [("a", "x"), ("b", "7")])
        self.assertEqual(show.find(3).acts, [("click", ("act", 1, "go", [7]))])
        self.assertEqual((show.find(6).parameters, show.find(6).env["m"]), ({"x": 7, "y": [7]}, 0))
        self.assertEqual(show.find(12).provided, {"t": 7})
        # The component of the provide and the one with other parameters and kids are rendered, the others are not.
        self.assertEqual((show.rendered, show.made.next_id), ([1, 6, 13], 29))

    def test_order(self):
        show = Show("component Main(l) { view { <p>each x in l by x { {x} <B n={x}/> }</p> } } "
                    "component B(n) { state m = n; view { <b>{m}</b> } }", {"l": [1, 2, 3]})
        self.assertEqual(show.go(), "1Main[2p[3'1' 4B[5b[6'1']] 7'2' 8B[9b[10'2']] 11'3' 12B[13b[14'3']]]]")
        show.values = {"l": [3, 4, 1]}
        self.assertEqual(show.go(), "1Main[2p[11'3' 12B[13b[14'3']] 15'4' 16B[17b[18'4']] 3'1' 4B[5b[6'1']]]]")
        self.assertEqual((show.rendered, show.made.next_id), ([1, 16], 19))
        show.values = {"l": ["3", 1]}
        self.assertEqual(show.go(), "1Main[2p[19'3' 20B[21b[22'3']] 3'1' 4B[5b[6'1']]]]")
        show.values = {"l": []}
        self.assertEqual(show.go(), "1Main[2p]")
        show.values = {"l": [1]}
        # An id is not given again when its instance is gone.
        self.assertEqual(show.go(), "1Main[2p[23'1' 24B[25b[26'1']]]]")

    def test_another_kind_or_key(self):
        source = "component Main(k) { view { slot <A k={k}/> } } component A(k) { view { %s } }"
        kinds = ["<p/>", "<q/>", "<B/>", "<C/>", '"t"', "await {} else {}", "try {} catch f {}", "provide c = 1 {}",
                 "provide d = 1 {}"]
        for one in kinds:
            for other in kinds:
                show = Show((source % one) + " component B() { view {} } component C() { context c; context d; view {} }")
                show.go()
                show.program["components"][1]["view"] = nodes(other)
                show.values = {"k": 1}
                show.go()
                kid = show.named("A").kids[0]
                self.assertEqual(kid.number, 3 if one == other else 4, (one, other))

    def test_another_root(self):
        show = Show("component Main() { view { \"a\" } } component Other() { view { \"b\" } }")
        self.assertEqual(show.go(), "1Main[2'a']")
        show.component = "Other"
        self.assertEqual(show.go(), "3Other[4'b']")
        self.assertEqual(show.rendered, [3])

    def test_state_stays_where_keys_stay(self):
        show = Show("component Main(l) { view { each x in l by x { <B/> } } } component B() { state m = 0; view { {m} } }",
                    {"l": ["a", "b"]})
        show.go()
        show.find(4).cells[0].send(1, ("number", 5), {})
        show.values = {"l": ["b", "a"]}
        self.assertEqual(show.go(), "1Main[4B[5'5'] 2B[3'0']]")
        self.assertEqual(show.rendered, [1, 4])

    def test_the_tree_that_is_passed_does_not_change(self):
        show = Show(EVERY)
        show.go()
        show.send("Main", "n", expression("[n, 1][0] + 1"), 1)
        show.send("Main", "n", expression("n + 1"), 2)
        tree, kept = show.tree, told([show.tree])
        before = copy.deepcopy((show.program, show.stores, show.answers))
        for lanes in ([], [1], [2], [0, 1, 2, 3]):
            for anew in (False, True):
                outcome = show.make(lanes, anew)
                self.assertEqual(outcome[0], "tree")
                self.assertFalse(shares([tree, show.program, show.stores, show.answers], outcome[1]))
        self.assertEqual(told([tree]), kept)
        self.assertEqual((show.program, show.stores, show.answers), before)

    def test_components_are_left_out_unless_it_is_said(self):
        show = Show("component Main() { state n = 0; view {} }")
        show.go()
        for more, rendered in [({}, []), ({"anew": False}, []), ({"anew": True}, [1])]:
            made = Pass(show.program, [1], stores={}, answers=[], next_id=2, **more)
            self.assertEqual(made.run("Main", {}, show.tree)[0], "tree")
            self.assertEqual(made.rendered, rendered)
        show.send("Main", "n", ("number", 7))
        lanes = [1]
        made = Pass(show.program, lanes, stores={}, answers=[], next_id=2)
        lanes.clear()
        self.assertEqual(made.run("Main", {}, show.tree)[1].env, {"n": 7})

    def test_what_is_passed_may_be_changed(self):
        parsed = Show("store s = [1]; component Main(p) { resource r = 1; view { {length(s) + length(p) + length(r)} } }")
        stores, answers, lanes, values = {"s": [1]}, [(1, ("value", [3]))], [1], {"p": [2]}
        made = Pass(parsed.program, lanes, stores=stores, answers=answers, next_id=1)
        stores["s"].append(2)
        answers[0][1][1].append(2)
        answers.clear()
        lanes.clear()
        outcome = made.run("Main", values, None)
        values["p"].append(2)
        self.assertEqual(outcome[1].kids[0].text, "3")
        self.assertEqual(outcome[1].parameters, {"p": [2]})
        outcome[1].env["s"].append(9)
        self.assertEqual(stores["s"], [1, 2])


class LeftOut(unittest.TestCase):
    SOURCE = """
store s = 1;
component Main() { state n = 0; state other = 0; let l = [n]; view {
  provide c = n { <Plain/> <Context/> <Shared/> }
  <Given x={l}/> <Slotted>{n}</Slotted> <Fixed x={[1, {a: 2}]}>"in"</Fixed> <Own/> <Fetched/>
} }
component Plain() { effect [] {} view { "p" } }
component Context() { context c; let d = [c]; effect [d, c] {} view { {c} } }
component Shared() { let t = s; view { "s" } }
component Given(x) { view { {x[0]} } }
component Slotted() { view { slot } }
component Fixed(x) { let d = x; view { slot } }
component Own() { state m = 0; view { {m} } }
component Fetched() { resource r = 1; view { {r} } }
"""
    # What depends on the store or, for stores are in each environment, on any of them: all components.
    NAMES = ["Main", "Plain", "Context", "Shared", "Given", "Slotted", "Fixed", "Own", "Fetched"]

    def show(self):
        show = Show(self.SOURCE)
        show.answers = [(1, ("value", "got"))]
        show.go()
        self.assertEqual(show.made.cost, 9)
        return show

    def rendered_names(self, show):
        there = show.by_number()
        return [there[number].name for number in show.rendered]

    def test_each_reason(self):
        show = self.show()
        show.go()
        self.assertEqual(self.rendered_names(show), ["Fetched"])
        show.send("Main", "n", ("number", 5))
        show.go()
        self.assertEqual(self.rendered_names(show), ["Main", "Context", "Given", "Slotted", "Fetched"])
        show.send("Own", "m", ("number", 5))
        show.go()
        self.assertEqual(self.rendered_names(show), ["Own", "Fetched"])
        # A cell that is nowhere shown is a reason, too; one that gets the same value is none.
        show.send("Main", "other", ("number", 5))
        show.go()
        self.assertEqual(self.rendered_names(show), ["Main", "Fetched"])
        show.send("Main", "other", ("number", 5))
        show.go()
        self.assertEqual(self.rendered_names(show), ["Fetched"])
        show.send("Main", "other", ("number", 6), 2)
        show.go([0, 1, 3])
        self.assertEqual(self.rendered_names(show), ["Fetched"])
        show.go([2])
        self.assertEqual(self.rendered_names(show), ["Main", "Fetched"])
        show.stores["s"] = 2
        show.go()
        self.assertEqual(self.rendered_names(show), self.NAMES)
        show.go([], True)
        self.assertEqual(self.rendered_names(show), self.NAMES)
        show.values = {}
        show.go()
        self.assertEqual(self.rendered_names(show), ["Fetched"])

    def test_true_is_not_1(self):
        show = Show("component Main(a) { view { <B a={a}/> } } component B(a) { view { {a} } }", {"a": 1})
        self.assertEqual(show.go(), "1Main[2B[3'1']]")
        show.values = {"a": True}
        self.assertEqual(show.go(), "1Main[2B[3'true']]")
        self.assertEqual(show.rendered, [1, 2])
        show.values = {"a": {"x": 1, "y": 2}}
        self.assertEqual(show.make()[0], "fails")
        show = Show("component Main(a) { view {} }", {"a": {"x": 1, "y": 2}})
        show.go()
        show.values = {"a": {"y": 2, "x": 1}}
        show.go()
        self.assertEqual(show.rendered, [])

    def test_what_stays_and_what_is_made(self):
        show = self.show()
        before = {one.name: one for one in walk([show.tree]) if one.form == "component"}
        show.send("Main", "n", ("number", 5))
        show.go()
        for name in self.NAMES:
            one, two = before[name], show.named(name)
            same = (one.env, one.described, one.wanted) == (two.env, two.described, two.wanted)
            self.assertEqual(same, name in ("Plain", "Shared", "Fixed", "Own", "Fetched"), name)
            self.assertFalse(shares([one.env, one.described, one.wanted], two))
        self.assertEqual(show.named("Context").env, {"s": 1, "c": 5, "d": [5]})
        self.assertEqual(show.named("Context").wanted, [[[5], 5]])
        self.assertEqual(show.named("Plain").wanted, [[]])
        self.assertEqual(show.named("Shared").env, {"s": 1, "t": 1})

    def test_what_is_below_what_is_left_out(self):
        show = Show("""
component Main() { view { <Mid/> } }
component Mid() { let d = 7; view { <p><Low/> {d}</p> } }
component Low() { context c; state m = 0; view { {m} } }
""")
        self.assertEqual(show.go(), "1Main[2Mid[3p[4Low[5'0'] 6'7']]]")
        show.send("Low", "m", ("number", 1))
        self.assertEqual(show.go(), "1Main[2Mid[3p[4Low[5'1'] 6'7']]]")
        self.assertEqual(show.rendered, [4])
        self.assertEqual(show.named("Mid").env, {"d": 7})

    def test_kids_of_a_use(self):
        # They belong to the component in whose view they stand: to its environment, its owner and its slot.
        show = Show("""
component Main(a) { state n = 1; handler go() {} view { <Outer>{n} {a}</Outer> } }
component Outer() { state n = 2; handler go() {} view { <Inner><p on x={do go()}>{n} slot</p></Inner> } }
component Inner() { state n = 3; view { {n} slot } }
""", {"a": "A"})
        self.assertEqual(show.go(), "1Main[2Outer[3Inner[4'3' 5p[6'2' 7'1' 8'A']]]]")
        self.assertEqual(show.named("p").acts, [("x", ("act", 2, "go", []))])
        self.assertEqual([kid.key for kid in show.named("Inner").kids], ["0", "1*/0"])
        show.send("Inner", "n", ("number", 9))
        self.assertEqual(show.go(), "1Main[2Outer[3Inner[4'9' 5p[6'2' 7'1' 8'A']]]]")
        self.assertEqual(show.rendered, [3])
        show.send("Main", "n", ("number", 8))
        show.go()
        self.assertEqual(show.rendered, [1, 2, 3])
        show.send("Outer", "n", ("number", 7))
        self.assertEqual(show.go(), "1Main[2Outer[3Inner[4'9' 5p[6'7' 7'8' 8'A']]]]")
        self.assertEqual(show.rendered, [2, 3])

    def test_a_try_in_the_kids_of_a_use(self):
        # Its environment is a part of the description: another value in it is a reason.
        show = Show("""
component Main(a) { let n = a; view { <Sub>try { "x" } catch f { {n} }</Sub> } }
component Sub() { view { slot } }
""", {"a": 1})
        show.go()
        show.values = {"a": 2}
        show.go()
        self.assertEqual(show.rendered, [1, 2])
        show.go()
        self.assertEqual(show.rendered, [])

    def test_effects(self):
        show = Show("""
component Main(a) { state n = a; let d = n + 1; effect [] {} effect [n, d, a] { log(n); } effect [[d]] {}
  view { {d} } }
""", {"a": 1})
        show.go()
        self.assertEqual((show.tree.wanted, show.tree.runs), ([[], [1, 2, 1], [[2]]], [None, None, None]))
        show.tree.runs = [(1, [], {"n": [1]}), None, (2, [[1]], {"n": 5})]
        show.values = {"a": 3}
        kept = copy.deepcopy(show.tree.runs)
        show.go()
        self.assertEqual((show.tree.wanted, show.tree.runs), ([[], [1, 2, 3], [[2]]], kept))
        show.go()
        self.assertEqual((show.tree.wanted, show.tree.runs, show.rendered), ([[], [1, 2, 3], [[2]]], kept, []))


class Failures(unittest.TestCase):
    def test_faults_on_the_way(self):
        for lines, view, rendered in [
            ("state a = 1 / 0;", "", []), ("state a = 1; state b = a / 0;", "", []), ("let a = 1 / 0;", "", [1]),
            ("resource a = 1 / 0;", "", [1]), ("effect [1 / 0] {}", "", [1]), ("", "{1 / 0}", [1]),
            ("", '"a" <p><b/>{1 / 0}</p>', [1]),
        ]:
            show = Show("component Main() { %s view { %s } }" % (lines, view))
            self.assertEqual(show.make(), ("fails", "division by 0"), lines)
            self.assertEqual((show.rendered, show.made.next_id, show.made.cost), (rendered, 1, 1))

    def test_the_order_on_the_way(self):
        for lines, view, message in [
            ("state a = 1 / 0; let b = {}.x;", "", "division by 0"),
            ("let b = {}.x; effect [1 / 0] {}", "{[][0]}", "no field x"),
            ("effect [1 / 0] {}", "{[][0]}", "nothing there"),
            ("effect [1 / 0] {} effect [[][0]] {}", "", "division by 0"),
            ("effect [1 / 0] {}", "<B/>", "division by 0"),
        ]:
            show = Show("component Main() { %s view { %s } } component B() { let c = null.x; view {} }" % (lines, view))
            self.assertEqual(show.make(), ("fails", message), lines)

    def test_a_failure_deeper_inside(self):
        show = Show("""
component Main() { view { "a" <p><A/></p> <Late/> } }
component A() { view { "b" <B/> } }
component B() { let x = 1 / 0; view {} }
component Late() { view {} }
""")
        show.next_id = 50
        self.assertEqual(show.make(), ("fails", "division by 0"))
        # The others of the list are not made any more.
        self.assertEqual((show.rendered, show.made.next_id, show.made.cost), ([50, 53, 55], 50, 3))

    def test_a_fault_of_cells_that_are_processed(self):
        show = Show("component Main() { state a = 1; state b = 2; view { {a} } }")
        show.go()
        show.send("Main", "b", expression("b / 0"))
        tree, kept = show.tree, told([show.tree])
        self.assertEqual(show.make([1]), ("fails", "division by 0"))
        self.assertEqual(show.rendered, [])
        self.assertEqual(told([tree]), kept)
        self.assertEqual(show.go([2]), "1Main[2'1']")
