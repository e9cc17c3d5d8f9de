"""Rendering at once, and taking over ([85])."""

import copy
import random
import unittest

from tests.helpers import shares
from tests.passes import told
from tests.roots import asked, component, in_short, lanes, rooted
from viewloom.documents.nodes import ids_of, is_document
from viewloom.documents.operations import apply_all
from viewloom.documents.patches import patch
from viewloom.errors import (
    InvalidDocument, MissingAnswer, RenderingFailed, RenderingHeld, UnknownComponent, UnknownParameter, ViewError,
)
from viewloom.passes.instances import walk
from viewloom.root.root import Root
from viewloom.root.serving import render_text, take_over
from viewloom.server.reading import read_tree
from viewloom.server.taking import compare_trees
from viewloom.words.reading import parse_program

SOURCE = component(
    "state n = 0; handler add(x) { n = n + x; log(n, event); } effect [n] { log(\"run\", n); } cleanup { log(\"clean\", n); }",
    '<p title={a} on click={do add(1)}>{a} "" {n}</p> await { <Asker k="x"/> "in" } else { "wait " {n} }'
    ' <Box><b/></Box> await { <Asker k="y"/> await { <Asker k="z"/> } else { "inner" } } else { <i>"w"</i> await { <Asker k="z"/> }'
    ' else { "deep" } }',
    "a", "store s = 0;",
    'component Asker(k) { resource r = k; view { <u>{r}</u> } } component Box() { context c; view { provide c = 1 { slot } } }'
)
PROGRAM = parse_program(SOURCE)
X, Y, Z = ("x", ("value", "X")), ("y", ("value", "Y")), ("z", ("value", "Z"))
NONE = ('<p title="A&amp;">A&amp;<!--e-->0</p><!--[1-->wait <!--t-->0<!--]--><b></b>'
        '<!--[2--><i>w</i><!--[3-->deep<!--]--><!--]-->')
SOME = ('<p title="A&amp;">A&amp;<!--e-->0</p><!--[--><u>X</u>in<!--]--><b></b>'
        '<!--[--><u>Y</u><!--[1-->inner<!--]--><!--]-->')
ALL = ('<p title="A&amp;">A&amp;<!--e-->0</p><!--[--><u>X</u>in<!--]--><b></b>'
       '<!--[--><u>Y</u><!--[--><u>Z</u><!--]--><!--]-->')
VALUES = {"a": "A&"}


def render(answers, source=None, values=None):
    return render_text(PROGRAM if source is None else parse_program(source), "Main", VALUES if values is None else values, answers)


def taken(text, answers, source=None, values=None):
    return take_over(PROGRAM if source is None else parse_program(source), "Main", VALUES if values is None else values, text,
                     answers)


class Rendering(unittest.TestCase):
    def test_texts(self):
        self.assertEqual(render([]), NONE)
        self.assertEqual(render([X, Y]), SOME)
        self.assertEqual(render([X, Y, Z]), ALL)
        self.assertEqual(render([Z, Y, ("q", ("error", "no"))]).count("<!--[1-->"), 1)
        self.assertEqual(render([], component("", ""), {}), "")
        self.assertEqual(render([], component("", '"a" {1} "" <p/>'), {}), "a<!--t-->1<!--e--><p></p>")

    def test_trys_and_errors(self):
        source = component("", "try { <Asker/> } catch f { {f.message} } try { <p>{1 / 0}</p> } catch f { {f.message} }",
                           more='component Asker() { resource r = "k"; view { {r} } }')
        with self.assertRaises(RenderingFailed) as caught:
            render([("k", ("error", "<no>"))], source, {})
        self.assertEqual(caught.exception.message, "division by 0")
        source = source.replace("<p>{1 / 0}</p>", "<Bad/>") + " component Bad() { view { {1 / 0} } }"
        self.assertEqual(render([("k", ("error", "<no>"))], source, {}), "&lt;no&gt;<!--t-->division by 0")

    def test_errors(self):
        with self.assertRaises(UnknownComponent):
            render_text(PROGRAM, "Gone", {"z": 1}, [])
        with self.assertRaises(UnknownParameter) as caught:
            render([], None, {"a": 1, "z": 1})
        self.assertEqual(caught.exception.name, "z")
        with self.assertRaises(RenderingFailed) as caught:
            render([], None, {"a": []})
        self.assertEqual(caught.exception.message, "not a text")
        with self.assertRaises(RenderingHeld):
            render([], component('resource r = "k";', "{r}"), {})
        with self.assertRaises(RenderingHeld):
            render([], component("", "await { <A/> } else { <A/> }", more='component A() { resource r = "k"; view {} }'), {})
        for error in (RenderingFailed, RenderingHeld, MissingAnswer, InvalidDocument):
            self.assertTrue(issubclass(error, ViewError))

    def test_nothing_changes(self):
        answers, values = [("x", ("value", ["X"])), ("y", ("error", "E"))], {"a": "b"}
        kept = copy.deepcopy((PROGRAM, answers, values))
        render([X])
        with self.assertRaises(RenderingFailed):
            render(answers, None, values)
        take_over(PROGRAM, "Main", values, NONE, [])
        self.assertEqual((PROGRAM, answers, values), kept)


def document_of(text, root, now):
    """The document that was read, of which the text of the first pass of the root is told."""
    partners = dict(compare_trees(read_tree(text), read_tree(now)).partners)
    following = [root.next_id]

    def id_at(path):
        nodes = root.document
        for index in path[:-1]:
            nodes = nodes[index][4]
        return nodes[path[-1]][1]

    def flat(nodes):
        return [part for node in nodes for part in (flat(node[2]) if node[0] == "await" else [node])]

    def numbered(nodes, around):
        found = []
        for index, node in enumerate(flat(nodes)):
            path = (*around, index)
            if path in partners:
                number = id_at(partners[path])
            else:
                number = following[0]
                following[0] += 1
            if node[0] == "text":
                found.append(("text", number, node[1]))
            else:
                found.append(("element", number, node[1], tuple(sorted(node[2])), numbered(node[3], path)))
        return tuple(found)

    return numbered(read_tree(text), ())


class TakingOver(unittest.TestCase):
    def check(self, text, answers, source=None, values=None):
        """Takes a text over, and checks the operations; returns the root, the differences and the late awaits."""
        found = taken(text, answers, source, values)
        root = found[0]
        document = document_of(text, root, render(answers, source, values))
        self.assertTrue(is_document(document))
        self.assertEqual(root.last_operations(), patch(document, root.document))
        self.assertEqual(apply_all(document, root.last_operations()), root.document)
        return found

    def test_the_same_answers(self):
        for text, answers in ((NONE, []), (SOME, [X, Y]), (ALL, [X, Y, Z])):
            root, differences, late = self.check(text, answers)
            self.assertEqual((differences, late, root.last_operations()), ([], [], []))
            other = rooted(SOURCE, VALUES, answers, settled=False)
            other.work(20)
            # All but the operations and the recording are those of a root that was made with the answers.
            self.assertEqual(told(root.whole_tree()), told(other.whole_tree()))
            self.assertEqual(
                (root.document, root.commits, root.pending, root.rendered_ids(), root.open_keys(), root.log_lines(),
                 root.why(), root.html(), root.error, root.clock, root.is_held),
                (other.document, 1, [], other.rendered_ids(), other.open_keys(), [["run", 0]], other.why(), other.html(),
                 None, 0, False))
            self.assertIsNone(root.recording())

    def test_more_answers(self):
        for text, answers, wanted in ((NONE, [X, Y], [1, 2]), (NONE, [X], [1]), (NONE, [Y], [2]), (SOME, [X, Y, Z], [1]),
                                      (NONE, [X, Y, Z], [1, 2]), (NONE, [Z], [])):
            root, differences, late = self.check(text, answers) if answers != [Z] else (None, [], [])
            self.assertEqual((differences, late), ([], wanted), answers)
        root, differences, late = taken(NONE, [X])
        # What was shown while it waited goes, and what is shown now comes.
        self.assertEqual([op[0] for op in root.last_operations()], ["remove", "remove", "insert", "insert"])
        self.assertEqual([op[2] for op in root.last_operations()[:2]], [root.next_id, root.next_id + 1])

    def test_fewer_answers(self):
        for text, answers in ((SOME, [X]), (SOME, [Y]), (ALL, [X, Y]), (ALL, [])):
            with self.assertRaises(MissingAnswer):
                taken(text, answers)

    def test_differences(self):
        text = SOME.replace('title="A&amp;"', 'title="B" more="1"').replace("<u>X</u>", "<i>X</i>").replace("<b></b>", "<b>new</b>")
        root, differences, late = self.check(text, [X, Y])
        self.assertEqual((differences, late), ([((0,), "attributes"), ((1,), "node"), ((3, 0), "extra")], []))
        kinds = [op[0] for op in root.last_operations()]
        self.assertEqual(kinds, ["remove", "remove", "unset", "set", "insert"])
        for text, wanted in [("", [((index,), "missing") for index in range(6)]), ("x", [((0,), "node")] + [((index,), "missing")
                                                                                                         for index in range(1, 6)])]:
            self.assertEqual(self.check(text, [X, Y])[1], wanted)
        self.assertEqual(self.check(SOME + "<p></p>tail", [X, Y])[1], [((6,), "extra"), ((7,), "extra")])

    def test_texts_without_awaits(self):
        # An await stands where the text has none, so that no await counts.
        plain = SOME.replace("<!--[-->", "").replace("<!--[1-->", "").replace("<!--]-->", "")
        root, differences, late = self.check(plain, [X, Y])
        self.assertEqual((differences, late, root.last_operations()), ([], [], []))

    def test_order_of_errors(self):
        for answers, values, text, error in [
            ([X], {"z": 1}, "<", UnknownParameter), ([X], {"a": []}, "<", RenderingFailed), ([X], VALUES, "<", InvalidDocument),
            ([], VALUES, SOME, MissingAnswer), ([], VALUES, SOME + "<", InvalidDocument),
        ]:
            with self.assertRaises(error):
                taken(text, answers, None, values)
        with self.assertRaises(UnknownComponent):
            take_over(PROGRAM, "Gone", {}, "<", [])
        with self.assertRaises(RenderingHeld):
            taken("<", [], component('resource r = "k";', "{r}"), {})
        with self.assertRaises(InvalidDocument) as caught:
            taken("<p>\n<!", [X])
        self.assertEqual((caught.exception.line, caught.exception.column), (2, 3))

    def test_it_goes_on_like_any_other_one(self):
        root, _, _ = taken(NONE, [])
        other = rooted(SOURCE, VALUES, settled=False)
        other.work(20)
        for one in (root, other):
            one.set_values({"a": "new"})
            one.flush()
        for index in range(40):
            for one in (root, other):
                go_on(one, random.Random(index))
            self.assertEqual(asked(root, False), asked(other, False), index)

    def test_ids_of_what_was_read_are_given_again(self):
        root, _, _ = taken(NONE, [X])
        gone = [op[2] for op in root.last_operations() if op[0] == "remove"]
        root.answer("y", "Y")
        root.flush()
        self.assertIn(gone[0], [one.number for one in walk(root.whole_tree())])

    def test_effects_controls_and_requests(self):
        source = component('effect [] { log("a"); after 3 {} } effect [] { s = 1; }',
                           '<input default="d"/> await { <A/> } else {} {s}', "", "store s = 0;",
                           'component A() { resource r = "k"; view {} }')
        text = render([], source, {})
        self.assertEqual(text, '<input default="d"></input><!--[1--><!--]-->0')
        root, _, _ = self.check(text, [], source, {})
        self.assertEqual((root.controls.shown(root.ids_of_tag("input")[0]), root.open_keys(), root.running_timers(), lanes(root)),
                         ("d", ["k"], [(1, 3, 0)], [0]))
        self.assertEqual((root.log_lines(), root.html(), root.store_values()),
                         ([["a"]], '<input default="d"></input>0', {"s": 1}))
        self.assertIs(root.answer("k", 1), True)

    def test_a_run_that_fails(self):
        source = component("effect [] { log(1 / 0); }", "<p/>")
        root, differences, late = taken("<p></p>", [], source, {})
        self.assertEqual((root.error, root.commits, root.html(), differences, late), ("division by 0", 2, "", [], []))
        self.assertEqual(root.last_operations(), [("remove", 0, 2)])

    def test_attributes_in_any_order(self):
        source = component("", '<p b="2" a="1"/>')
        self.assertEqual(render([], source, {}), '<p a="1" b="2"></p>')
        root, differences, _ = self.check('<p b="2" a="1"></p>', [], source, {})
        self.assertEqual((root.last_operations(), differences), ([], []))
        root, differences, _ = self.check('<p z="2" c="1" b="3"></p>', [], source, {})
        self.assertEqual(root.last_operations(), [("unset", 2, "c"), ("unset", 2, "z"), ("set", 2, "a", "1"), ("set", 2, "b", "2")])

    def test_what_is_returned_may_be_changed(self):
        answers = [X, Y]
        root, differences, late = taken(SOME + "z", answers)
        before = asked(root)
        self.assertFalse(shares((differences, late), root))
        differences.clear()
        late.append(1)
        answers.clear()
        self.assertEqual(asked(root), before)

    def test_texts_by_chance(self):
        count = 0
        for seed in range(300):
            chance = random.Random(seed)
            text = chance.choice([NONE, SOME, ALL])
            for _ in range(chance.randint(1, 3)):
                at = chance.randrange(len(text))
                text = text[:at] + chance.choice(["", "x", "<b></b>", "<!--[--><!--]-->", "<!--[9-->y<!--]-->"]) + text[at:]
            try:
                self.check(text, chance.choice([[], [X, Y], [X, Y, Z]]))
                count += 1
            except (MissingAnswer, InvalidDocument):
                pass
        self.assertGreater(count, 20)


def go_on(root, chance):
    """Does something by chance."""
    chance.choice([
        lambda: root.click(root.ids_of_tag("p")[0]), lambda: root.work(chance.randint(0, 4)), root.flush,
        lambda: root.set_values({"a": chance.choice(["b", "c"])}), lambda: root.advance(chance.randint(0, 9)),
        lambda: root.open_keys() and root.answer(root.open_keys()[0], "V"), lambda: root.set_cell(1, "n", chance.randint(0, 5), "idle"),
    ])()


class WholeTexts(unittest.TestCase):
    def test_in_short(self):
        root = Root(PROGRAM, "Main", VALUES, answers=[X, Y, Z])
        root.flush()
        self.assertEqual(in_short(root).count("await"), 3)
