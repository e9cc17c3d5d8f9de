"""Events and gestures at a root ([80])."""

import unittest

from tests.roots import asked, component, first_of, in_short, lanes, rooted
from viewloom.passes.instances import walk

# main 2, p 3 (text 4), input 5, off: b 6 (text 7)
HEARING = component(
    'state n = 0; handler say(x) { log(x, event); } handler count() { n = n + 1; } handler end() { log("end"); stop; }'
    ' handler no() { prevent; log("no"); } handler bad(x) { log("before"); log(1 / 0); log("behind"); }'
    ' handler worse() { log([] + 1); } handler later_on() { later { n = n + 10; } } handler set_to(x) { s = x; log(s); }',
    '<main on go_down={do say("main down")} on go={do say("main")} on fly={do count()} on end={do say("never")}'
    ' on click={do count()} on no_down={do no()} on input={do no()} on bad={do bad(1)} on two={do worse()}'
    ' on soon={do later_on()} on keep={do set_to(5)}>'
    '<p on go_down={do say("p down")} on go={do say("p")} on end={do end()} on no={do say("p")} on bad={do say("p")}'
    ' on two_down={do bad(2)} on two={do end()} on keep={do set_to(4)} on fly_down={null}>"t"</p>'
    '<input name="f" value={n}/><b disabled={true} name="b" on go={do say("off")}>"t"</b></main>',
    stores="store s = 0;"
)
MAIN, P, TEXT, FIELD, OFF, OFF_TEXT = 2, 3, 4, 5, 6, 7


def record(event, name=None, value=None, checked=None, **more):
    return {"event": event, "name": name, "value": value, "checked": checked, **more}


class Events(unittest.TestCase):
    def setUp(self):
        self.root = rooted(HEARING)

    def words(self):
        return [line[0] for line in self.root.take_log()]

    def test_order_of_hearers(self):
        self.assertEqual(self.root.event(TEXT, "go", {}), (True, False, []))
        self.assertEqual(self.words(), ["main down", "p down", "p", "main"])
        self.assertEqual(self.root.event(MAIN, "go", {}), (True, False, []))
        self.assertEqual(self.words(), ["main down", "main"])
        self.assertEqual(self.root.event(MAIN, "go_down", {}), (True, False, []))
        self.assertEqual(self.words(), ["main down"])

    def test_record(self):
        self.root.event(FIELD, "go", {"x": [1], "event": "other", "value": 3})
        self.assertEqual(self.root.log_lines(), [["main down", record("go", "f", "0", x=[1])],
                                                 ["main", record("go", "f", "0", x=[1])]])
        self.root.take_log()
        self.root.event(TEXT, "go", {})
        self.assertEqual(self.root.log_lines()[2], ["p", record("go")])

    def test_nobody_hears(self):
        before = asked(self.root, False)
        for number in (0, 1, 99, -1, OFF, OFF_TEXT):
            self.assertEqual(self.root.event(number, "go", {}), (False, False, []))
        self.assertEqual(self.root.event(P, "none", {}), (False, False, []))
        self.assertEqual(self.root.event(OFF, "click", {}), (False, False, []))
        self.assertEqual(asked(self.root, False), before)
        self.assertEqual(rooted(HEARING, settled=False).event(2, "go", {}), (False, False, []))

    def test_lanes(self):
        for event, lane in [("fly", 1), ("click", 0), ("soon", 2), ("keep", 0)]:
            root = rooted(HEARING)
            root.event(MAIN, event, {})
            self.assertEqual(lanes(root), [lane])
        self.root.event(P, "click", {})
        self.assertEqual((self.root.html()[:20], self.root.cells(1)), ("<main><p>t</p><input", [("n", 0, 1)]))
        self.assertEqual(self.root.commits, 1)

    def test_stop(self):
        self.assertEqual(self.root.event(P, "end", {}), (True, False, []))
        self.assertEqual(self.root.log_lines(), [["end"]])

    def test_prevent(self):
        self.assertEqual(self.root.event(P, "no", {}), (True, True, []))
        self.assertEqual(self.words(), ["no", "p"])
        # An input cannot be prevented.
        self.assertEqual(self.root.event(FIELD, "input", {}), (True, False, []))
        self.assertEqual(self.words(), ["no"])

    def test_faults(self):
        self.assertEqual(self.root.event(P, "bad", {}), (True, False, ["division by 0"]))
        self.assertEqual(self.words(), ["p", "before"])
        # The deeds of each hearer are done before the next one; those behind a stop are left out.
        self.assertEqual(self.root.event(P, "two", {}), (True, False, ["division by 0"]))
        self.assertEqual(self.words(), ["before", "end"])
        self.assertEqual(self.root.event(MAIN, "two", {}), (True, False, ["not to be added"]))
        self.assertEqual(self.words(), [])
        self.assertEqual(self.root.commits, 1)

    def test_deeds_before_the_next_hearer(self):
        self.root.event(P, "keep", {})
        # The values that a hearer sees are those of the last rendering.
        self.assertEqual((self.root.log_lines(), self.root.store_values()), ([[0], [0]], {"s": 5}))

    def test_acts_of_components_that_are_gone(self):
        root = rooted(component("state up = true; handler keep(x) { s = x; }",
                                "<p on go={s}/> if up { <Leaf hand={do keep()}/> }", stores="store s = null;",
                                more="component Leaf(hand) { handler say() { log(\"leaf\"); }"
                                     " effect [] { call hand(do say()); } view {} }"))
        number = root.ids_of_tag("p")[0]
        self.assertEqual(root.event(number, "go", {}), (True, False, []))
        self.assertEqual(root.take_log(), [["leaf"]])
        root.set_cell(1, "up", False)
        root.flush()
        self.assertEqual(root.event(number, "go", {}), (True, False, []))
        self.assertEqual(root.take_log(), [])

    def test_elements_that_are_hidden(self):
        root = rooted(component("state k = 0; handler say(x) { log(x); }",
                                'await { <p on go={do say("kid")}/> <A k={k}/> } else { <i on go={do say("wait")}/> }',
                                more="component A(k) { resource r = k; view {} }"), answers=[(0, ("value", 0))])
        kid = root.ids_of_tag("p")[0]
        self.assertEqual(root.event(kid, "go", {}), (True, False, []))
        root.set_cell(1, "k", 1)
        root.flush()
        self.assertEqual(root.html(), "<i></i>")
        self.assertIn(kid, [one.number for one in walk(root.whole_tree())])
        self.assertEqual(root.event(kid, "go", {}), (False, False, []))
        self.assertEqual(root.event(root.ids_of_tag("i")[0], "go", {}), (True, False, []))
        self.assertEqual(root.log_lines(), [["kid"], ["wait"]])

    def test_elements_around_components(self):
        root = rooted(component('handler say(x) { log("main", x); }', '<main on go={do say(1)}><Box><b/></Box></main>',
                                more='component Box() { handler say(x) { log("box", x); } view {'
                                     ' <p on go={do say(2)} on go_down={do say(3)}>slot</p> } }'))
        root.event(root.ids_of_tag("b")[0], "go", {})
        self.assertEqual(root.log_lines(), [["box", 3], ["box", 2], ["main", 1]])


# main 2: input 3; input 4 (box); select 5: option 6, option 7; area 8; button 9
FORM = component(
    'state text = ""; state shut = false; handler typed() { text = event.value; log("typed", event.value); }'
    ' handler key() { log("key", event.key); if event.key == "x" { prevent; } if event.key == "!" { shut = true; } }'
    ' handler say(x) { log(x, event.value, event.checked); } handler bad() { log(1 / 0); }'
    ' handler no() { prevent; } handler hide() { shut = true; }',
    '<main on change={do say("change")}><input value={text} disabled={shut} on input={do typed()} on keydown={do key()}/>'
    '<input kind="box" on input={do say("box")} on click_down={do say("turned")}/>'
    '<select on input={do say("chosen")}><option value="a"/><option value="b">"B"</option></select>'
    '<area default="d" on input={do bad()}/><button on click_down={do hide()} on click={do bad()}/></main>'
)


class Gestures(unittest.TestCase):
    def setUp(self):
        self.root = rooted(FORM)
        self.field, self.box = self.root.ids_of_tag("input")
        self.select, self.area = self.root.ids_of_tag("select")[0], self.root.ids_of_tag("area")[0]
        self.button = self.root.ids_of_tag("button")[0]

    def test_enter(self):
        self.assertIsNone(self.root.enter(self.field, "axb"))
        self.assertEqual(self.root.log_lines(), [["key", "a"], ["typed", "a"], ["key", "x"], ["key", "b"], ["typed", "ab"],
                                                 ["change", "ab", None]])
        # The root is settled behind each event.
        self.assertEqual((self.root.commits, self.root.pending, self.root.controls.shown(self.field)), (3, [], "ab"))
        self.assertIn('value="ab"', self.root.html())

    def test_enter_at_what_is_disabled_on_the_way(self):
        self.root.enter(self.field, "a!b")
        self.assertEqual(self.root.log_lines(), [["key", "a"], ["typed", "a"], ["key", "!"]])
        self.assertEqual((self.root.controls.shown(self.field), self.root.commits), ("a", 3))
        self.root.take_log()
        before = asked(self.root, False)
        self.root.enter(self.field, "c")
        self.root.clear(self.field)
        self.root.click(self.field)
        self.assertEqual(asked(self.root, False), before)

    def test_click_at_a_box(self):
        self.root.click(self.box)
        self.assertEqual(self.root.log_lines(), [["turned", None, True], ["box", None, True], ["change", None, True]])
        self.assertIs(self.root.controls.shown(self.box), True)
        self.root.click(self.box)
        self.assertIs(self.root.controls.shown(self.box), False)

    def test_choose_and_click_at_an_option(self):
        self.root.choose(self.select, "b")
        self.assertEqual(self.root.take_log(), [["chosen", "b", None], ["change", "b", None]])
        self.root.choose(self.select, "b")
        self.root.choose(self.select, "z")
        self.assertEqual(self.root.take_log(), [])
        self.root.click(self.root.ids_of_tag("option")[0])
        self.assertEqual(self.root.take_log(), [["chosen", "a", None], ["change", "a", None]])
        self.assertEqual(self.root.controls.shown(self.select), "a")

    def test_faults_join_the_log(self):
        self.root.click(self.button)
        self.assertEqual(self.root.log_lines(), [["division by 0"]])
        self.assertIn("disabled", self.root.html())
        self.root.clear(self.area)
        self.assertEqual(self.root.log_lines(), [["division by 0"], ["division by 0"], ["change", "", None]])

    def test_prevented_box(self):
        root = rooted(component("handler no() { prevent; }", '<p on click={do no()}><input kind="box"/></p>'))
        root.click(root.ids_of_tag("input")[0])
        self.assertIs(root.controls.shown(root.ids_of_tag("input")[0]), False)

    def test_only_whole_passes_are_made(self):
        root = rooted(component("state n = 0; handler h() { n = n + 1; }", "<p on tap={do h()} on click={do h()}/> {n}"))
        root.event(2, "tap", {})
        root.click(99)
        self.assertEqual((root.html(), lanes(root)), ("<p></p>0", [1]))
        root.click(2)
        self.assertEqual((root.html(), lanes(root)), ("<p></p>1", [1]))
        root.flush()
        self.assertEqual(root.html(), "<p></p>2")
        root.click(2)
        self.assertEqual(root.html(), "<p></p>3")

    def test_a_target_that_goes(self):
        root = rooted(component("state up = true; handler h() { up = false; log(event.event); }",
                                'if up { <input kind="box" on click={do h()} on input={do h()} on change={do h()}/> }'))
        root.click(2)
        self.assertEqual((root.log_lines(), root.html()), ([["click"]], ""))

    def test_a_root_that_fails_on_the_way(self):
        root = rooted(component("state n = 1; handler h() { n = 0; }", "<input on keydown={do h()}/> {1 / n}"))
        root.enter(2, "abc")
        self.assertEqual((root.error, root.html(), root.commits), ("division by 0", "", 2))
        self.assertEqual(in_short(root), "")

    def test_first_of(self):
        self.assertEqual(first_of(self.root, "main"), 2)
