"""Bounds and costs of passes ([48], [49])."""

import unittest

from tests.passes import Show
from viewloom.passes.instances import walk


def nested(levels, inner='"x"', wrap="<p>@</p>"):
    """A source of nodes within each other: as many levels, and what stands in the innermost one."""
    source = inner
    for _ in range(levels):
        source = wrap.replace("@", source)
    return source


LINKS = "component Link(n) { view { if n > 1 { <Link n={n - 1}/> } } } "
MANY = "component Main(n) { view { %s } } component A() { view {} } component B() { view { <A/> } } "
GROUPS = (MANY + "component G(n) { view { each x in range(n) { <A/> } } } component F() { let x = 1 / 0; view {} }")


def many(expression, node="<A/>"):
    """A source of nodes: one, as many times as the value of an expression."""
    return "each x in range(%s) { %s }" % (expression, node)


class Depth(unittest.TestCase):
    def test_components(self):
        for n, fine in [(28, True), (29, True), (30, False), (40, False)]:
            show = Show("component Main(n) { view { <Link n={n}/> } } " + LINKS, {"n": n})
            found = show.make()
            self.assertEqual(found[0] if fine else found, "tree" if fine else ("fails", "nested too deep"), n)
            self.assertEqual(show.made.next_id, n + 2 if fine else 1)
            self.assertEqual(show.made.cost, n + 1 if fine else 30)

    def test_each_kind(self):
        for wrap in ["<p>@</p>", "<S>@</S>", "provide c = 1 { @ }", "await { @ } else {}", "try { @ } catch f { <p/> }"]:
            for n, fine in [(27, True), (28, False)]:
                # Main, the chain, the kind itself and what stands in it.
                show = Show("component Main(n) { context c; view { <L n={n}/> } } component S() { view { slot } } "
                            "component L(n) { view { if n > 1 { <L n={n - 1}/> } else { %s } } }"
                            % wrap.replace("@", '"x"'), {"n": n})
                found = show.make()
                self.assertEqual(found[0] if fine else found, "tree" if fine else ("fails", "nested too deep"), wrap)

    def test_in_a_fallback(self):
        source = ("component Main(n) { view { <L n={n}/> } } component R() { resource r = 1; view {} } "
                  "component L(n) { view { if n > 1 { <L n={n - 1}/> } else { await { <R/> } else { <p><i/></p> } } } }")
        for n, fine in [(26, True), (27, False)]:
            show = Show(source, {"n": n})
            found = show.make()
            self.assertEqual(found[0] if fine else found, "tree" if fine else ("fails", "nested too deep"))
            self.assertEqual(show.made.asked, [1])

    def test_in_a_try(self):
        show = Show("component Main(n) { view { <p>try { <Link n={n}/> } catch f { {f.message} } </p> <i/> } } " + LINKS,
                    {"n": 27})
        self.assertEqual(show.make()[0], "tree")
        self.assertEqual(show.made.next_id, 32)
        show.values = {"n": 28}
        self.assertEqual(show.go(), "1Main[2p[3try(nested too deep)[4'nested too deep']] 5i]")
        self.assertEqual(show.made.cost, 28)

    def test_views_that_are_nested(self):
        # Levels of tags alone: a view can have 19 of them, a component in it again as many.
        source = "component Main() { view { %s } } component B() { view { %s } }"
        for inside, fine in [(13, True), (14, False)]:
            show = Show(source % (nested(14, "<B/>"), nested(inside, '"x"')))
            found = show.make()
            self.assertEqual(found[0] if fine else found, "tree" if fine else ("fails", "nested too deep"))


class Renderings(unittest.TestCase):
    def test_200_renderings(self):
        for n, fine in [(198, True), (199, True), (200, False)]:
            show = Show(MANY % many("n"), {"n": n})
            found = show.make()
            self.assertEqual(found[0] if fine else found, "tree" if fine else ("fails", "too many components"))
            self.assertEqual((show.made.cost, show.made.next_id), (min(n + 1, 200), n + 2 if fine else 1))

    def test_in_a_try(self):
        # The one that would be the 201st fails in its try, and so does every later one.
        source = GROUPS % ('try { <G n={20}/> <F/> } catch f {} <G n={n}/> try { "t" <A/> } catch f { {f.message} } '
                           'try { <A/> } catch f { "f" }')
        for n, messages in [(173, [None, None]), (174, [None, None]), (175, [None, "too many components"]),
                            (176, ["too many components"] * 2)]:
            show = Show(source, {"n": n})
            show.go()
            self.assertEqual([kid.message for kid in show.tree.kids[2:]], messages)
            self.assertEqual((show.made.cost, len(show.rendered)), (min(n + 26, 200),) * 2)

    def test_renderings_that_are_given_up_count(self):
        source = GROUPS % "try { <G n={150}/> <F/> } catch f { {f.message} } <G n={n}/>"
        for n, fine in [(45, True), (46, True), (47, False)]:
            show = Show(source, {"n": n})
            found = show.make()
            self.assertEqual(found[0] if fine else found, "tree" if fine else ("fails", "too many components"), n)
            self.assertEqual(show.made.cost, min(200, 154 + n))

    def test_a_try_around_too_many(self):
        show = Show(GROUPS % "try { <G n={n}/> } catch f { {f.message} } <p/>", {"n": 199})
        self.assertEqual(show.go(), "1Main[2try(too many components)[3'too many components'] 4p]")
        self.assertEqual((show.made.cost, len(show.rendered), show.made.next_id), (200, 200, 5))
        # Nothing more can be rendered behind it: a failure of the nodes behind catch is one of the try itself.
        show = Show(GROUPS % "try { <G n={n}/> } catch f { <A/> }", {"n": 199})
        self.assertEqual(show.make(), ("fails", "too many components"))

    def test_what_is_left_out_does_not_count(self):
        show = Show("component Main(n) { state m = 0; view { each x in range(n) { <A/> } } } component A() { view {} }",
                    {"n": 120})
        show.go()
        self.assertEqual(show.made.cost, 121)
        show.values = {"n": 199}
        self.assertEqual(show.make()[0], "tree")
        self.assertEqual(show.made.cost, 80)

    def test_a_fault_of_cells_comes_first(self):
        show = Show(MANY % (many("199") + "<C/>") + "component C() { state x = 1 / 0; view {} }")
        self.assertEqual(show.make(), ("fails", "division by 0"))
        self.assertEqual(show.made.cost, 200)


class Instances(unittest.TestCase):
    def test_200_instances(self):
        for n, fine in [(198, True), (199, True), (200, False)]:
            show = Show("component Main(n) { view { each x in range(n) { {x} } } }", {"n": n})
            found = show.make()
            self.assertEqual(found[0] if fine else found, "tree" if fine else ("fails", "too many instances"))
            self.assertEqual((show.made.next_id, show.made.cost), (n + 2 if fine else 1, 1))

    def test_a_try_does_not_catch_it(self):
        source = 'component Main(n) { view { try { each x in range(n) { <p/> } } catch f { "c" } } }'
        for n, fine in [(198, True), (199, False)]:
            show = Show(source, {"n": n})
            found = show.make()
            self.assertEqual(found[0] if fine else found, "tree" if fine else ("fails", "too many instances"))
            self.assertEqual(show.made.next_id, 201 if fine else 1)

    def test_all_instances_count(self):
        # Also those that are hidden, in fallbacks, and those of components and the like.
        source = """
component Main(n, k) { view { await { <R k={k}/> %s } else { %s } } }
component R(k) { resource r = k; view {} }
""" % (many("n", "{x}"), many("n", "<p/>"))
        for n, fine in [(98, True), (99, False)]:
            show = Show(source, {"n": n, "k": 1})
            show.answers = [(1, ("value", 1))]
            show.go()
            self.assertEqual(len(list(walk([show.tree]))), n + 3)
            show.values = {"n": n, "k": 2}
            found = show.make([0])
            self.assertEqual(found[0] if fine else found, "tree" if fine else ("fails", "too many instances"))
            self.assertEqual(show.made.next_id, 2 * n + 4 if fine else n + 4)
        for wrap, each in [("<p>{x}</p>", 2), ("provide c = x { {x} }", 2), ("try { {x} } catch f {}", 2),
                           ("await { {x} } else { {x} }", 2), ("<S>{x}</S>", 2)]:
            source = "component Main(n) { context c; view { <L n={n}/> <L n={n + 1}/> } } component S() { view { slot } }" \
                     "component L(n) { view { each x in range(n) { %s } } }" % wrap
            show = Show(source, {"n": 48})
            self.assertEqual(show.make()[0], "tree", wrap)
            self.assertEqual(len(list(walk([show.make()[1]]))), 3 + 97 * each)
            show.values = {"n": 49}
            self.assertEqual(show.make(), ("fails", "too many instances"), wrap)


class Costs(unittest.TestCase):
    def test_at_least_1(self):
        show = Show("component Main() { state n = 0; view {} }")
        self.assertEqual(show.go(), "1Main")
        self.assertEqual(show.made.cost, 1)
        self.assertEqual(show.go(), "1Main")
        self.assertEqual((show.rendered, show.made.cost), ([], 1))
        show.tree.cells[0].send(1, ("function", "range", [("number", -1)]), {})
        self.assertEqual(show.make(), ("fails", "less than 0"))
        self.assertEqual((show.rendered, show.made.cost), ([], 1))

    def test_ahead_of_the_pass(self):
        show = Show("component Main() { view {} }")
        show.make()
        self.assertEqual((type(show.made)(show.program, [], stores={}, answers=[], next_id=1)).cost, 1)

    def test_each_rendering_counts(self):
        show = Show("""
component Main(k) { view {
  <A/> try { <A/> <F/> <A/> } catch f { <A/> } await { <A/> <R k={k}/> <A/> } else { <A/> } <A/>
} }
component A() { view {} }
component F() { let x = 1 / 0; view {} }
component R(k) { resource r = k; view { <A/> } }
""", {"k": 1})
        show.make()
        self.assertEqual(show.made.cost, 10)
        show.answers = [(1, ("value", 1))]
        self.assertEqual(show.make()[0], "tree")
        self.assertEqual(show.made.cost, 10)
        show.go()
        show.values = {"k": 2}
        self.assertEqual(show.make([2]), ("holds", [2]))
        # Main, and R, which waits and holds the pass; the components beside it have nothing new.
        self.assertEqual((show.made.cost, len(show.rendered)), (2, 2))
