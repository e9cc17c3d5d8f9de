"""Reading written trees ([64], [66], and [65] as far as reading needs it)."""

import random
import unittest

from tests.trees import TEXTS, WORDS, TreeMaker, first_wrong, written
from viewloom.errors import InvalidDocument
from viewloom.server.reading import read_tree

TREES = [
    ("", []),
    ("a", [("text", "a")]),
    ("a > b \"c\" 'd'\n - &amp;&lt;&gt;&quot;", [("text", "a > b \"c\" 'd'\n - &<>\"")]),
    ("&amp;amp;", [("text", "&amp;")]),
    ("<!--e-->", [("text", "")]),
    ("<!--e--><!--e-->", [("text", ""), ("text", "")]),
    ("a<!--e-->b", [("text", "a"), ("text", ""), ("text", "b")]),
    ("a<!--t-->b", [("text", "a"), ("text", "b")]),
    ("a<!--t-->b<!--t-->c<!--e-->", [("text", "a"), ("text", "b"), ("text", "c"), ("text", "")]),
    ("<a></a>", [("element", "a", [], [])]),
    ("<a-1-></a-1->", [("element", "a-1-", [], [])]),
    ("x<a>y</a>z", [("text", "x"), ("element", "a", [], [("text", "y")]), ("text", "z")]),
    ('<a b="">c</a>', [("element", "a", [("b", "")], [("text", "c")])]),
    ('<a z="1" b-2="<>\n &lt;&gt;&amp;&quot; =\'"></a>',
     [("element", "a", [("z", "1"), ("b-2", "<>\n <>&\" ='")], [])]),
    ("<a><b></b><a></a></a>", [("element", "a", [], [("element", "b", [], []), ("element", "a", [], [])])]),
    ("<!--[--><!--]-->", [("await", None, [])]),
    ("<!--[1--><!--]-->", [("await", 1, [])]),
    ("<!--[999999999-->a<!--]-->b", [("await", 999999999, [("text", "a")]), ("text", "b")]),
    ("<!--[2--><!--[--><a></a><!--]--><!--[1-->b<!--]--><!--]-->",
     [("await", 2, [("await", None, [("element", "a", [], [])]), ("await", 1, [("text", "b")])])]),
    ("<a><!--[-->b<!--]-->c</a>", [("element", "a", [], [("await", None, [("text", "b")]), ("text", "c")])]),
]

# In each text "@" stands ahead of the place that is wrong; without it, the place is the end.
WRONG = [
    # The text ends within something.
    "<", "a<", "<a", "<a-", "<a ", "<a b", "<a b1-", "<a b=", '<a b="', '<a b="x', '<a b="x"', '<a b="x" ',
    '<a b="x" c="',
    "<a>", "<a>x", "<a><", "<a></", "<a></", "<ab></a", "<a></a", "<a><b></b>", "<a><b></b></",
    "<!", "<!-", "<!--", "<!--e", "<!--e-", "<!--e--", "<!--t--", "<!--[", "<!--[-", "<!--[--", "<!--[1", "<!--[12-",
    "<!--[12--",
    "<!--]", "<!--]--", "<!--[-->", "<!--[1-->a", "<!--[--><", "<!--[0", "<!--[01-", "<!--[1234567890--",
    "<a><!--[-->b<!--]-->",
    "&", "a&a", "&am", "&amp", "&l", "&lt", "&g", "&quot", "<a>&q", '<a b="&', '<a b="&am', "a&amp;&",
    "a<!--t-->b<!--t--",
    "<!--t-", "<a><!--]", "<!--[--><a>", '<a b="x" b', '<a b="x" b=',
    # Signs that begin nothing.
    "@<A>", "@<1>", "@< a>", "@<>", "@<<", "@<=", "a@<-", "@<&", "@<!a", "@<!-a", "@<!--a", "@<!--e>", "@<!--e->",
    "@<!--E-->", "@<!---->",
    "@<!-- e-->", "@<!--t>", "@<!--[a-->", "@<!--[1a", "@<!--[ 1-->", "@<!--[-1-->", "@<!--[1->", "@<!--[->",
    "@<!--]>", "@<!--]]",
    "@<!--[]-->", "@<!--[1 -->", "@<!DOCTYPE", "\n@<\n", "<a>@<!a", "@<\n",
    # End tags.
    "@</a>", "@</", "@</>", "a@</", "<a>@</b>", "<a>@</ a>", "<a>@</A>", "<a>@</ab>", "<ab>@</a>", "<a>@</a >",
    "<a>@</a\n", "<a>@</>",
    "<a>@</b", "<a></a>@</a>", "<a><b>@</a></b>", "<!--[-->@</a>", "<a><!--[-->@</a>", "<a><!--[-->@</",
    "<a><!--[-->@</a",
    "<!--[1--><a></a>@</", "<a><!--[--><!--]--></a>@</a>", "<a><b><!--[-->@</b>",
    # Start tags.
    "<a@/>", "<a@\n>", "<a@B>", "<a@_b>", "<a@=\"x\">", "<a@ >", "<a@  b=\"x\">", "<a@ B=\"x\">", "<a@ 1=\"x\">",
    "<a@ b>", "<a@ b >", "<a@ b =\"x\">", "<a@ b='x'>", "<a@ b=x>", "<a@ b= \"x\">", "<a@ b==\"x\">", "<a@ bC=\"x\">",
    "<a@ />", "<a@ =",
    '<a b="x"@c="y">', '<a b="x"@/>', '<a b="x"@ c>', '<a b="x"@ >', '<a b="x"@"', '<a b="x"@\n', '<a b="x"@  ',
    "<a@  ", "<a@ -", "<a@<b>",
    "<a@ <", "<a@&", "<a@ b&",
    # Attributes that are there already.
    '<a b="x" @b="y">', '<a b="x" @b="', '<a b="" c="" @b="&x', '<a b1="" b="" @b1=""', '<a b="x" b-="" @b-="">',
    # Escapes.
    "@&;", "@&a;", "@&AMP;", "@& ", "@&ampx", "@&amp ;", "@&apos;", "@&lt&gt;", "a&amp;@&x", "@&&", "@&#60;", "<a>@&<",
    '<a b="@&x"', '<a b="@&"', '<a b="&amp;@&lt"', '<a b="x&quot;@&quo"',
    # Marks between texts.
    "@<!--t-->", "@<!--t-->a", "a@<!--t-->", "a@<!--t--><", "a@<!--t--><b></b>", "a@<!--t--><!--e-->",
    "<!--e-->@<!--t-->a",
    "<a></a>@<!--t-->a", "a<!--t-->b@<!--t-->", "a@<!--t--><!--t-->b", "<a>@<!--t-->b</a>", "a<b>@<!--t-->c</b>",
    "<a>b@<!--t--></a>",
    "<!--[-->a<!--]-->@<!--t-->b", "a<!--[-->@<!--t-->b", "<a>b@<!--t-->", "a<!--t-->@&x",
    # Ends of awaits.
    "@<!--]-->", "a@<!--]-->", "<a>@<!--]--></a>", "<!--[--><a>@<!--]-->", "<!--[--><!--]-->@<!--]-->",
    "<a><!--[--><!--]-->@<!--]-->",
    # Numbers of awaits.
    "@<!--[0-->", "@<!--[01-->", "@<!--[00-->", "@<!--[1000000000-->", "@<!--[0000000001-->", "<!--[1-->@<!--[1-->",
    "<!--[1--><!--]-->@<!--[1--><!--]-->", "<a><!--[22--><!--]--></a>@<!--[22-->", "@<!--[" + "9" * 5000 + "-->",
]


class Reading(unittest.TestCase):
    def assert_wrong(self, text, at):
        ahead = text[:at]
        place = (ahead.count("\n") + 1, len(ahead) - ahead.rfind("\n"))
        with self.assertRaises(InvalidDocument, msg=text[-200:]) as caught:
            read_tree(text)
        self.assertEqual((caught.exception.line, caught.exception.column), place, text[-200:])

    def test_trees(self):
        for text, tree in TREES:
            found = read_tree(text)
            self.assertEqual(repr(found), repr(tree), text)
            if "'" not in text:
                self.assertEqual(written(tree), text)

    def test_wrong_places(self):
        for row in WRONG:
            for ahead in ("", 'x\ny<p q="\n>">&lt;</p>', "<!--[--><b>z</b>\n<!--]-->"):
                text = ahead + row.replace("@", "", 1)
                wrong = (ahead + row).index("@") if "@" in row else len(text)
                self.assert_wrong(text, wrong)
                self.assertEqual(first_wrong(text), wrong, row)

    def test_lines(self):
        self.assert_wrong("\n\na\nb&x", 5)
        self.assert_wrong('<a b="\n\n&"', 8)
        with self.assertRaises(InvalidDocument) as caught:
            read_tree("a\nbc<!--]-->")
        self.assertEqual((caught.exception.line, caught.exception.column), (2, 3))
        with self.assertRaises(InvalidDocument) as caught:
            read_tree("<a>\n\n")
        self.assertEqual((caught.exception.line, caught.exception.column), (3, 1))

    def test_forty_levels(self):
        for begin, end in [("<a>", "</a>"), ("<!--[-->", "<!--]-->"), ('<a b="c">x', "</a>")]:
            for inner in ("a", "<!--e-->", "<b></b>", "<!--[--><!--]-->", "<!--[7--><!--]-->", "<b>"):
                if inner != "<b>":
                    read_tree(begin * 39 + "<!--e-->" + inner + end * 39)
                ahead = begin.replace("x", "") * 40
                self.assert_wrong(ahead + inner + end * 40, len(ahead))
        read_tree("<a>" * 40 + "</a>" * 40)
        read_tree("<!--[-->" * 40 + "<!--]-->" * 40)

    def test_what_is_found_out_first_on_level_41(self):
        ahead = "<a>" * 40
        for inner, wrong in [
            ("a", 0), ("&x", 0), ("&am", 0), ("<b", 0), ("<b c", 0), ("<b C", 0), ('<b c="&x', 0), ("<!--[-->", 0),
            ("<!--[1-->", 0),
            ("<!--[0-->", 0), ("<!--e-->", 0), ("<", 1), ("<!--", 4), ("<!--[", 5), ("<!--[1", 6), ("<!--e--", 7),
            ("</", 2), ("</b", 0),
            ("<!--]-->", 0), ("<!--t-->", 0), ("<B", 0), ("\n", 0),
        ]:
            self.assert_wrong(ahead + inner, len(ahead) + wrong)
            self.assertEqual(first_wrong(ahead + inner), len(ahead) + wrong, inner)

    def test_levels_are_left_again(self):
        self.assertEqual(len(read_tree("<a></a><!--[--><!--]-->" * 100)), 200)
        read_tree("<a>" * 20 + ("<!--[-->" * 20 + "<!--]-->" * 20) * 3 + "</a>" * 20)

    def test_random_trees(self):
        for seed in range(500):
            tree = TreeMaker(seed).tree(4)
            text = written(tree)
            found = read_tree(text)
            self.assertEqual(repr(found), repr(tree))
            self.assertEqual(written(found), text)
            found.clear()
            self.assertEqual(read_tree(text), tree)

    def test_random_texts(self):
        pieces = ["<", ">", "/", "&", "&amp;", "&l", "<!--", "-->", "[", "]", "e", "t", "1", "0", "-", " ", '"', "=",
                  "a", "\n", "</a>",
                  "<a>", "<!--[-->", "<!--]-->", "<!--t-->", "<!--e-->", "<!--[1-->", ' b="', *WORDS, *TEXTS]
        right = 0
        for seed in range(6000):
            chance = random.Random(seed)
            text = written(TreeMaker(seed).tree(2))
            for _ in range(chance.randint(1, 3)):
                at = chance.randint(0, len(text))
                text = text[:at] + chance.choice(["", chance.choice(pieces)]) + text[at + chance.choice([0, 0, 1, 5]):]
            if chance.random() < 0.4:
                text = text[:chance.randint(0, len(text))]
            wrong = first_wrong(text)
            if wrong is None:
                right += 1
                read_tree(text)
            else:
                self.assert_wrong(text, wrong)
        self.assertGreater(right, 500)
        self.assertLess(right, 5000)
