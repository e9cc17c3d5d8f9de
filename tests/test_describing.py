"""Descriptions of nodes: what they are, their keys, faults and bounds ([25] to [29])."""

import copy
import unittest

from tests.helpers import fault_of, nodes, shares
from viewloom.values.plain import same
from viewloom.views.describing import describe, member_key
from viewloom.views.kinds import keys_differ, weight

ACT = ("act", 3, "go", [1])
ENVIRONMENT = {
    "nil": None, "yes": True, "no": False, "n": 7, "m": -3, "t": "abc", "e": "", "l": [1, "two", [3]],
    "row": ["a", "b"], "r": {"x": 1, "y": [2]}, "act": ACT, "none": [], "many": list(range(200)),
}
USE = ("use", "9", "C", (("x", [[7]]),), ())
SLOT = (
    ("text", "0", "in"),
    ("element", "1", "p", (), (("click", ("act", 9, "h", [[1]])),), (("text", "0", "deep"), USE)),
    ("use", "2", "B", (("a", [1]), ("b", {"x": [2]})), (("provide", "0", "c", [3], (USE,)), USE)),
    ("await", "3", (("text", "0", "a"), USE), (("text", "0", "b"), USE)),
    ("try", "4", (USE,), "f", [("text", "x")], {"v": [4]}, 9, (("text", "0", "s"), USE)),
)


def views(source, slot=(), owner=5, **more):
    return fault_of(describe, nodes(source), {**ENVIRONMENT, **more}, owner, slot)


def plain(key, text):
    return ("text", key, text)


def keys_of(descriptions):
    return [description[1] for description in descriptions]


class Nodes(unittest.TestCase):
    def assert_described(self, source, *expected, **more):
        found = views(source, **more)
        self.assertEqual(repr(found), repr(("value", expected)), source)

    def test_texts(self):
        self.assert_described('"a" "" "b\\n"', plain("0", "a"), plain("1", ""), plain("2", "b\n"))
        self.assert_described("")

    def test_shows_of_every_kind_of_value(self):
        for source, text in [("null", ""), ("true", "true"), ("false", "false"), ("n", "7"), ("-12", "-12"),
                             ("t", "abc"), ("e", ""), ("l[1]", "two"), ("0", "0"), (str(10 ** 30), str(10 ** 30))]:
            self.assert_described("{" + source + "}", plain("0", text))
        for source in ["l", "r", "act", "[]", "{}", "do go()"]:
            self.assertEqual(views("{" + source + "}"), "not a text")

    def test_attributes(self):
        self.assert_described(
            '<p z={null} y={false} x={true} b={n} a="t" w={e} c={t + "!"} d={-1} q={nil} u={no} v={yes}/>',
            ("element", "0", "p",
             (("a", "t"), ("b", "7"), ("c", "abc!"), ("d", "-1"), ("v", ""), ("w", ""), ("x", "")), (), ()))
        # Ascending as Python compares strings, whatever the order of the source.
        self.assert_described('<p b1="1" b="2" a_b="3" ab="4" b10="5"/>',
                              ("element", "0", "p",
                               (("a_b", "3"), ("ab", "4"), ("b", "2"), ("b1", "1"), ("b10", "5")), (), ()))

    def test_acts(self):
        self.assert_described(
            "<p on z={do go(n, l)} on b={null} on a={act} on c={nil}/>",
            ("element", "0", "p", (), (("z", ("act", 5, "go", [7, [1, "two", [3]]])), ("a", ACT)), ()))

    def test_kids(self):
        self.assert_described('<main>"a" <p/> {n}</main> <b/>',
                              ("element", "0", "main", (), (),
                               (plain("0", "a"), ("element", "1", "p", (), (), ()), plain("2", "7"))),
                              ("element", "1", "b", (), (), ()))

    def test_uses(self):
        self.assert_described('<B z={l} a="x" m={null} c={do go(1)}/> <C/>',
                              ("use", "0", "B", (("z", [1, "two", [3]]), ("a", "x"), ("m", None),
                                                 ("c", ("act", 5, "go", [1]))), ()),
                              ("use", "1", "C", (), ()))
        # The kids are described for the environment, the owner and the slot here.
        self.assert_described('<B><p on click={do go()}>{n}</p> slot <C a={n}/></B>',
                              ("use", "0", "B", (),
                               (("element", "0", "p", (), (("click", ("act", 5, "go", [])),), (plain("0", "7"),)),
                                plain("1*/0", "in"), ("use", "2", "C", (("a", 7),), ()))), slot=SLOT[:1])

    def test_provide_and_await(self):
        self.assert_described('provide c = l { {n} provide d = null {} }',
                              ("provide", "0", "c", [1, "two", [3]],
                               (plain("0", "7"), ("provide", "1", "d", None, ()))))
        self.assert_described('await { <B/> "a" } else { "w" {n} } await {} else {}',
                              ("await", "0", (("use", "0", "B", (), ()), plain("1", "a")),
                               (plain("0", "w"), plain("1", "7"))),
                              ("await", "1", (), ()))

    def test_try(self):
        source = 'try { {n} slot } catch f { {f.message} } try {} catch g {}'
        other = nodes('{f.message}')
        self.assert_described(
            source,
            ("try", "0", (plain("0", "7"), plain("1*/0", "in")), "f", other, ENVIRONMENT, 5, SLOT[:1]),
            ("try", "1", (), "g", [], ENVIRONMENT, 5, SLOT[:1]), slot=SLOT[:1])
        # The other nodes are described only when they are needed.
        self.assert_described("try {} catch f { {1 / 0} }",
                              ("try", "0", (), "f", nodes("{1 / 0}"), ENVIRONMENT, 5, ()))
        # The names of an each are in the environment.
        found = views('each x, i in row { try {} catch f {} }')[1]
        self.assertEqual([part[5] for part in found],
                         [{**ENVIRONMENT, "x": "a", "i": 0}, {**ENVIRONMENT, "x": "b", "i": 1}])

    def test_slot(self):
        found = views('"a" slot <p>slot</p>', slot=SLOT)[1]
        self.assertEqual(found[1:6], tuple((part[0], "1*/" + part[1], *part[2:]) for part in SLOT))
        self.assertEqual(found[6][5], tuple((part[0], "0*/" + part[1], *part[2:]) for part in SLOT))
        self.assert_described('slot slot')
        self.assert_described('slot slot', plain("0*/7", "a"), plain("1*/7", "a"), slot=(plain("7", "a"),))


class Keys(unittest.TestCase):
    def assert_keys(self, source, keys, **more):
        found = views(source, **more)[1]
        self.assertEqual(keys_of(found), keys, source)
        self.assertTrue(keys_differ(found))

    def test_places(self):
        self.assert_keys('"a" {n} <p/> <B/> provide c = 1 {} await {} else {} try {} catch f {} slot',
                         ["0", "1", "2", "3", "4", "5", "6", "7*/0"], slot=(plain("0", "x"),))
        self.assert_keys('"x" ' * 12, [str(index) for index in range(12)])

    def test_if(self):
        self.assert_keys('"a" if yes { "b" <p/> } "c"', ["0", "1t/0", "1t/1", "2"])
        self.assert_keys('"a" if no { "b" } else { "c" "d" } "e"', ["0", "1e/0", "1e/1", "2"])
        self.assert_keys('if no { "b" } "e"', ["1"])
        self.assert_keys('if yes { if no { "a" } else { "b" if yes { "c" } } }', ["0t/0e/0", "0t/0e/1t/0"])

    def test_each(self):
        self.assert_keys('"a" each x in row { {x} <p/> } "b"', ["0", "1[0]/0", "1[0]/1", "1[1]/0", "1[1]/1", "2"])
        self.assert_keys('each x, i in row { {x} {i} }', ["0[0]/0", "0[0]/1", "0[1]/0", "0[1]/1"])
        self.assert_keys('each x in row by x { {x} }', ["0[s1:a]/0", "0[s1:b]/0"])
        self.assert_keys('each x, i in row by i * -5 { {x} }', ["0[0]/0", "0[-5]/0"])
        self.assert_keys('each x, i in ["", "12", "s1:a"] by x { {i} }', ["0[s0:]/0", "0[s2:12]/0", "0[s4:s1:a]/0"])
        self.assert_keys('each x in [12, "12", "s2:12", 0, ""] by x { "k" }',
                         ["0[12]/0", "0[s2:12]/0", "0[s5:s2:12]/0", "0[0]/0", "0[s0:]/0"])
        self.assert_keys('each x in row by x { each y in [1, 2] by y { if y == 1 { "c" } else { "d" } } }',
                         ["0[s1:a]/0[1]/0t/0", "0[s1:a]/0[2]/0e/0", "0[s1:b]/0[1]/0t/0", "0[s1:b]/0[2]/0e/0"])
        self.assert_keys('each x in none { {x} }', [])
        self.assert_keys('each x, i in row { if i == 1 { {x} } }', ["0[1]/0t/0"])

    def test_values_of_each(self):
        found = views('each x, i in row by x { {x} {i} {n} }')[1]
        self.assertEqual([part[2] for part in found], ["a", "0", "7", "b", "1", "7"])
        # What is called like a name of the environment stands for the member inside.
        found = views('each x in row { {x} } {n}', x="out")[1]
        self.assertEqual([part[2] for part in found], ["a", "b", "7"])

    def test_kids_and_parts_of_awaits_begin_anew(self):
        found = views('"x" if yes { <p>"a" if yes { "b" }</p> <B>"c"</B> }')[1]
        self.assertEqual([keys_of(found), keys_of(found[1][5]), keys_of(found[2][4])],
                         [["0", "1t/0", "1t/1"], ["0", "1t/0"], ["0"]])
        found = views('"x" each y in row { await { "a" } else { "b" "c" } provide c = 1 { "d" } '
                      'try { "e" if no {} else { "f" } } catch f {} }')[1]
        self.assertEqual(keys_of(found[1][2]), ["0"])
        self.assertEqual(keys_of(found[1][3]), ["0", "1"])
        self.assertEqual(keys_of(found[2][4]), ["0"])
        self.assertEqual(keys_of(found[3][2]), ["0", "1e/0"])

    def test_slot_within_a_slot(self):
        inner = views('slot "y"', slot=(plain("3", "x"),))[1]
        self.assertEqual(keys_of(inner), ["0*/3", "1"])
        self.assert_keys('"a" slot if yes { slot }', ["0", "1*/0*/3", "1*/1", "2t/0*/0*/3", "2t/0*/1"], slot=inner)
        found = views('<p>slot</p>', slot=inner)[1]
        self.assertEqual(keys_of(found[0][5]), ["0*/0*/3", "0*/1"])

    def test_member_key(self):
        for value, key in [(0, "0"), (7, "7"), (-7, "-7"), (10 ** 30, "1" + "0" * 30), (-10 ** 30, "-1" + "0" * 30),
                           ("", "s0:"), ("a", "s1:a"), ("12", "s2:12"), ("a" * 300, "s300:" + "a" * 300),
                           ("-7", "s2:-7"), (":", "s1::"), ("a\nb", "s3:a\nb")]:
            self.assertEqual(member_key(value), key)
        for value in [None, True, False, [], [1], {}, {"a": 1}, ACT]:
            self.assertEqual(fault_of(member_key, value), "key must be a number or text")

    def test_keys_are_equal_if_the_values_are_the_same(self):
        values = [0, 1, -1, 10, 10 ** 30, -10 ** 30, "", "0", "1", "-1", "10", "s", "s1:0", "a", "b", "ab", "1:"]
        for a in values:
            for b in values:
                self.assertEqual(member_key(a) == member_key(b), same(a, b))


class Faults(unittest.TestCase):
    PLACES = [
        "@", '"a" @', "<p>@</p>", "<B>@</B>", "provide c = 1 { @ }", "await { @ } else {}", "await {} else { @ }",
        "try { @ } catch f {}", "if yes { @ }", "if no {} else { @ }", "each x in row { @ }",
        "each x in row { <p>if yes { @ }</p> }",
    ]
    FAULTS = [
        ("{l}", "not a text"), ("<p a={l}/>", "not a text"), ("<p a={r}/>", "not a text"),
        ("<p a={act}/>", "not a text"),
        ("<p on a={n}/>", "not an action"), ("<p on a={yes}/>", "not an action"), ("<p on a={no}/>", "not an action"),
        ("<p on a={l}/>", "not an action"), ("<p on a={t}/>", "not an action"), ("<p on a={r}/>", "not an action"),
        ("if n {}", "not true or false"), ("if nil {}", "not true or false"), ("if t {} else {}", "not true or false"),
        ("each x1 in n {}", "not a list"), ("each x1 in t {}", "not a list"), ("each x1 in r {}", "not a list"),
        ("each x1 in nil {}", "not a list"),
        ("each x1 in l by x1 {}", "key must be a number or text"),
        ("each x1 in [nil] by x1 {}", "key must be a number or text"),
        ("each x1 in [1] by yes {}", "key must be a number or text"),
        ("each x1 in [1] by act {}", "key must be a number or text"),
        ("each x1 in [1, 2, 1] by x1 {}", "duplicate key 1"), ("each x1 in row by 5 {}", "duplicate key 5"),
        ('each x1 in ["a", "b", "a"] by x1 {}', "duplicate key s1:a"),
        ("each x1 in row by e {}", "duplicate key s0:"),
        ("{1 / 0}", "division by 0"), ("<p a={1 / 0}/>", "division by 0"), ("<p on a={1 / 0}/>", "division by 0"),
        ("<B a={1 / 0}/>", "division by 0"), ("provide c = 1 / 0 {}", "division by 0"),
        ("if 1 / 0 {}", "division by 0"), ("each x1 in 1 / 0 {}", "division by 0"),
        ("each x1 in row by 1 / 0 {}", "division by 0"), ("each x1 in row { {1 / 0} }", "division by 0"),
    ]

    def test_each_fault_at_each_place(self):
        for place in self.PLACES:
            for source, message in self.FAULTS:
                self.assertEqual(views(place.replace("@", source)), message, (place, source))

    def test_no_faults(self):
        for source in ["<p a={nil} b={no} on c={nil}/>", "if yes {} else { {l} }", "if no { {l} }",
                       "each x in none by x.y { {l} }", "try {} catch f { {l} }"]:
            self.assertEqual(views(source)[0], "value", source)

    def test_the_first_of_two_faults(self):
        first = ("{r.q}", "no field q")
        for source, message in self.FAULTS:
            self.assertEqual(views(source + first[0]), message)
            self.assertEqual(views(first[0] + source), first[1])
            for place in ("await { @ } else { # }", "<p>@ #</p>", "<p>@</p> #", "<B>@</B> #", "try { @ } catch f {} #",
                          "provide c = 1 { @ } #", "if yes { @ } #", "each x in row { @ # }", "each x in [1] { @ } #",
                          "each x, i in row { if i == 0 { @ } else { # } }"):
                self.assertEqual(views(place.replace("@", source).replace("#", first[0])), message, place)
                self.assertEqual(views(place.replace("@", first[0]).replace("#", source)), first[1], place)

    def test_the_order_within_a_node(self):
        for source, message in [
            # Attributes, acts, kids; each is looked at when it has been evaluated.
            ("<p a={l} b={1 / 0}/>", "not a text"), ("<p a={1 / 0} b={l}/>", "division by 0"),
            ("<p b={l} a={1 / 0}/>", "not a text"), ("<p a={l} on b={1}/>", "not a text"),
            ("<p on b={1} on c={1 / 0}/>", "not an action"), ("<p on b={1 / 0} on c={1}/>", "division by 0"),
            ("<p on b={1}>{1 / 0}</p>", "not an action"), ("<p a={l}>{1 / 0}</p>", "not a text"),
            ("<B a={r.q} b={1 / 0}/>", "no field q"), ("<B a={r.q}>{1 / 0}</B>", "no field q"),
            ("provide c = r.q { {1 / 0} }", "no field q"), ("if n { {1 / 0} } else { {1 / 0} }", "not true or false"),
            ("each x in n by 1 / 0 {}", "not a list"), ("each x in r.q by 1 / 0 {}", "no field q"),
            # Member by member: the key, then its nodes.
            ("each x in [1] by nil { {1 / 0} }", "key must be a number or text"),
            ("each x in [1, nil] by x { {1 / 0} }", "division by 0"),
            ("each x in [1, nil] by x { if x == 1 {} else { {1 / 0} } }", "key must be a number or text"),
            ("each x in [1, 1] by x { {1 / 0} }", "division by 0"),
            ("each x, i in [1, 1] by x { if i == 1 { {1 / 0} } }", "duplicate key 1"),
            ("each x, i in [1, 2, 1] by x { if i == 1 { {1 / 0} } }", "division by 0"),
            ("each x, i in [1, 1, nil] by x { {x} }", "duplicate key 1"),
        ]:
            self.assertEqual(views(source), message, source)


class Bounds(unittest.TestCase):
    def texts(self, count, after=""):
        """A source of nodes that weigh as much as a number."""
        return "each x1 in slice(many, 0, %d) { {x1} } %s" % (count, after)

    def test_weights(self):
        for count, after, fine in [(200, "", True), (199, '"a"', True), (200, '"a"', False), (199, "<p/>", True),
                                   (200, "<p/>", False), (198, "<p>{n}</p>", True), (199, "<p>{n}</p>", False),
                                   (197, "await { {n} } else { {n} }", True),
                                   (198, "await { {n} } else { {n} }", False),
                                   (197, "try { {n} {n} } catch f { {n} {n} {n} }", True),
                                   (198, "try { {n} {n} } catch f {}", False),
                                   (198, "provide c = 1 { {n} }", True), (199, "provide c = 1 { {n} }", False),
                                   (198, "<B>{n}</B>", True), (199, "<B>{n}</B>", False),
                                   (196, "<p><p><p>{n}</p></p></p>", True), (197, "<p><p><p>{n}</p></p></p>", False)]:
            found = views(self.texts(count, after))
            self.assertEqual(found[0] if fine else found, "value" if fine else "too large", (count, after))
            if fine:
                self.assertEqual(sum(weight(part) for part in found[1]), 200)

    def test_weights_of_each_list(self):
        for place in ["<p>@</p>", "<B>@</B>", "provide c = 1 { @ }", "await { @ } else {}", "await {} else { @ }",
                      "try { @ } catch f {}", "if yes { @ }", "if no {} else { @ }", "each x in [1] { @ }"]:
            # The list itself may have 200, the node around it adds its own weight to the list outside.
            around = 0 if place[:2] in ("if", "ea") else 1
            self.assertEqual(views(place.replace("@", self.texts(200 - around)))[0], "value", place)
            self.assertEqual(views(place.replace("@", self.texts(200 - around, '"a"'))), "too large", place)
        self.assertEqual(views("each x in [1, 2] { %s }" % self.texts(100))[0], "value")
        self.assertEqual(views("each x in [1, 2] { %s }" % self.texts(101)), "too large")
        self.assertEqual(views("if yes { %s } %s" % (self.texts(100), self.texts(100)))[0], "value")
        self.assertEqual(views("if yes { %s } %s" % (self.texts(100), self.texts(101))), "too large")

    def test_weights_of_slots(self):
        slot = tuple(plain(str(index), "x") for index in range(100))
        deep = (("element", "0", "p", (), (), slot[:99]),)
        for inside in (slot, deep):
            self.assertEqual(views("slot slot", slot=inside)[0], "value")
            self.assertEqual(views('slot slot "a"', slot=inside), "too large")
            self.assertEqual(views('<p>slot</p> slot', slot=inside), "too large")

    def test_too_large_comes_ahead_of_faults_behind_it(self):
        for source in [self.texts(200, '"a" {1 / 0}'), self.texts(200, '<p/> {l}'), "<p>%s</p>" % self.texts(200, '"a"'),
                       "<p>%s</p>" % self.texts(200, '"a" {1 / 0}'), "if yes { %s }" % self.texts(200, '"a" {1 / 0}'),
                       "each x, i in many { {x} if i == 0 { \"b\" \"c\" } if i == 199 { {1 / 0} } }",
                       "each x, i in row { %s if i == 1 { {1 / 0} } }" % self.texts(200, '"a"'),
                       "await { %s } else { {1 / 0} }" % self.texts(200, '"a"')]:
            self.assertEqual(views(source), "too large", source)
        for source in [self.texts(200, '{1 / 0}'), self.texts(200, '<p>{1 / 0}</p>'),
                       self.texts(200, '<p a={1 / 0}/>'), self.texts(200, "if yes { {1 / 0} }"),
                       self.texts(200, "await { {n} } else { {1 / 0} }"),
                       self.texts(200, "each x in [1, 2] { if x == 1 { {1 / 0} } }"),
                       # Those of one member are weighed before the members together.
                       "each x, i in row { %s if i == 1 { {1 / 0} } }" % self.texts(101)]:
            self.assertEqual(views(source), "division by 0", source)
        # The members so far are weighed as soon as one of them has been described.
        self.assertEqual(views("each x, i in [0, 1, 2] { if i == 2 { {1 / 0} } %s }" % self.texts(101)), "too large")
        self.assertEqual(views("each x, i in [0, 1, 2] { if i == 1 { {1 / 0} } %s }" % self.texts(101)),
                         "division by 0")

    def test_keys(self):
        # The key of the member is s191: or s190: and the text; [ and ]/0 with the place of the each stand around it.
        for count, fine in [(190, True), (191, False), (300, False)]:
            for place in ["@", "<p>@</p>", "<B>@</B>", "await { @ } else {}", "await {} else { @ }",
                          "provide c = 1 { @ }", "try { @ } catch f {}"]:
                source = place.replace("@", "each x in [k] by k { {n} }")
                found = views(source, k="k" * count)
                self.assertEqual(found[0] if fine else found, "value" if fine else "too large", (source, count))
        self.assertEqual(len(views("each x in [k] by k { {n} }", k="k" * 190)[1][0][1]), 200)
        # A member that describes nothing has no description with a key.
        self.assertEqual(views("each x in [k] by k {}", k="k" * 400), ("value", ()))

    def test_keys_of_ifs_eaches_and_slots(self):
        for place, more in [("if yes { @ }", 3), ("each x1 in [1] { @ }", 5), ("if yes { if yes { @ } }", 6)]:
            source = place.replace("@", "each x in [k] by k { {n} }")
            self.assertEqual(len(views(source, k="k" * (190 - more))[1][0][1]), 200)
            self.assertEqual(views(source, k="k" * (191 - more)), "too large")
        for count, fine in [(197, True), (198, False)]:
            found = views("slot", slot=(plain("k" * count, "x"),))
            self.assertEqual(found[0] if fine else found, "value" if fine else "too large")
            found = views("<p>slot</p> {1 / 0}", slot=(plain("k" * count, "x"),))
            self.assertEqual(found, "division by 0" if fine else "too large")

    def test_too_long_keys_come_ahead_of_faults_behind_them(self):
        self.assertEqual(views("each x in [k, nil] by x { {n} }", k="k" * 200), "too large")
        self.assertEqual(views("each x in [k] by k { {n} {1 / 0} }", k="k" * 200), "too large")
        self.assertEqual(views("each x in [k] by k { {1 / 0} }", k="k" * 200), "division by 0")
        self.assertEqual(views("each x in [k, k] by k {}", k="k" * 200), "duplicate key s200:" + "k" * 200)


class Sharing(unittest.TestCase):
    SOURCE = ('<p a={t} on click={do go(l)} on b={act}>"a" slot</p> <B a={l} b={r}>{n} slot</B> provide c = l { slot }'
              ' each x in l by text(x == 1) + text(x == "two") { <B a={x}/> } await { <B a={l}/> } else { <B a={l}/> }'
              ' slot slot try { <B a={l}/> slot } catch f { {f} } each x in [l, [l]] { try {} catch f { {x} } }')

    def test_nothing_is_changed_or_shared(self):
        tree = nodes(self.SOURCE)
        environment = copy.deepcopy(ENVIRONMENT)
        slot = copy.deepcopy(SLOT)
        kept = copy.deepcopy((tree, environment, slot))
        found = describe(tree, environment, 5, slot)
        first = copy.deepcopy(found)
        self.assertEqual(repr((tree, environment, slot)), repr(kept))
        self.assertFalse(shares(found, environment))
        self.assertFalse(shares(found, slot))
        self.assertFalse(shares(found, tree))
        for part in found:
            if part[0] == "use":
                for _, value in part[3]:
                    if isinstance(value, (list, dict)):
                        value.clear()
            if part[0] == "provide":
                part[3].clear()
            if part[0] == "element":
                part[4][0][1][3].clear()
        self.assertEqual(repr((tree, environment, slot)), repr(kept))
        self.assertEqual(repr(describe(tree, environment, 5, slot)), repr(first))

    def test_what_a_try_keeps_is_its_own(self):
        environment = copy.deepcopy(ENVIRONMENT)
        slot = copy.deepcopy(SLOT)
        tree = nodes("try {} catch f { \"a\" } try {} catch g {} slot each x in [l, l] { try {} catch f {} }")
        found = [part for part in describe(tree, environment, 5, slot) if part[0] == "try"]
        self.assertEqual(len(found), 5)
        first = copy.deepcopy(found)
        for index, part in enumerate(found):
            self.assertEqual(repr(part), repr(first[index]))
            part[4].append(("slot",))
            part[5]["more"] = 1
            for one in part[5].values():
                if isinstance(one, (list, dict)):
                    one.clear()
            for inner in part[7]:
                if inner[0] == "provide":
                    inner[3].append(1)
                if inner[0] == "use":
                    inner[3][0][1].append(1)
        self.assertEqual(environment, ENVIRONMENT)
        self.assertEqual(slot, SLOT)
        self.assertEqual(tree, nodes(
            "try {} catch f { \"a\" } try {} catch g {} slot each x in [l, l] { try {} catch f {} }"
        ))

    def test_nothing_changes_behind_a_fault(self):
        for source, message in Faults.FAULTS:
            tree = nodes(source)
            environment = copy.deepcopy(ENVIRONMENT)
            slot = copy.deepcopy(SLOT)
            kept = copy.deepcopy(tree)
            for _ in range(2):
                self.assertEqual(fault_of(describe, tree, environment, 5, slot), message)
            self.assertEqual(repr((tree, environment, slot)), repr((kept, ENVIRONMENT, SLOT)))
