"""Writing written trees, their plain texts, and reading back what was written ([64] to [67])."""

import copy
import unittest

from tests.test_written_trees import TREES, WRONG
from tests.trees import TEXTS, TreeMaker, first_wrong, written
from viewloom.errors import InvalidDocument
from viewloom.server.reading import read_tree
from viewloom.server.writing import plain_text, write_tree

# Each with its text and its plain text.
WRITTEN = [
    ([], "", ""),
    ([("text", "a")], "a", "a"),
    ([("text", "")], "<!--e-->", ""),
    ([("text", ""), ("text", "")], "<!--e--><!--e-->", ""),
    ([("text", "a"), ("text", "b")], "a<!--t-->b", "ab"),
    ([("text", "a"), ("text", "b"), ("text", "c")], "a<!--t-->b<!--t-->c", "abc"),
    ([("text", "a"), ("text", ""), ("text", "b")], "a<!--e-->b", "ab"),
    ([("text", ""), ("text", "a"), ("text", "")], "<!--e-->a<!--e-->", "a"),
    ([("text", "<a b=\"c\"> & 'd'\n-->")], "&lt;a b=\"c\"&gt; &amp; 'd'\n--&gt;", "&lt;a b=\"c\"&gt; &amp; 'd'\n--&gt;"),
    ([("text", "&amp;&lt;")], "&amp;amp;&amp;lt;", "&amp;amp;&amp;lt;"),
    ([("element", "p", [], [])], "<p></p>", "<p></p>"),
    ([("element", "my-tag1", [("b", "2"), ("a-", "")], [])], '<my-tag1 b="2" a-=""></my-tag1>',
     '<my-tag1 b="2" a-=""></my-tag1>'),
    ([("element", "p", [("a", "<x y='z'> & \"&quot;\"\n")], [])],
     "<p a=\"&lt;x y='z'> &amp; &quot;&amp;quot;&quot;\n\"></p>",
     "<p a=\"&lt;x y='z'> &amp; &quot;&amp;quot;&quot;\n\"></p>"),
    ([("text", "a"), ("element", "p", [], [("text", "b"), ("text", "c")]), ("text", "d"), ("text", "e")],
     "a<p>b<!--t-->c</p>d<!--t-->e", "a<p>bc</p>de"),
    ([("element", "p", [], [("text", "")])], "<p><!--e--></p>", "<p></p>"),
    ([("await", None, [])], "<!--[--><!--]-->", ""),
    ([("await", 1, [])], "<!--[1--><!--]-->", ""),
    ([("await", 999999999, [("text", "a")])], "<!--[999999999-->a<!--]-->", "a"),
    ([("text", "a"), ("await", None, [("text", "b")]), ("text", "c")], "a<!--[-->b<!--]-->c", "abc"),
    ([("text", "a"), ("await", 7, []), ("text", "c"), ("text", "d")], "a<!--[7--><!--]-->c<!--t-->d", "acd"),
    ([("await", None, [("text", "a")]), ("await", 2, [("text", "b"), ("text", "c")])],
     "<!--[-->a<!--]--><!--[2-->b<!--t-->c<!--]-->", "abc"),
    ([("await", 2, [("await", None, [("element", "p", [], [("await", 1, [("text", "")])])]), ("text", "x")])],
     "<!--[2--><!--[--><p><!--[1--><!--e--><!--]--></p><!--]-->x<!--]-->", "<p></p>x"),
]


def plain(nodes):
    """The nodes without awaits, with texts that follow each other as one, and without empty ones."""
    found = []
    for node in nodes:
        if node[0] == "await":
            parts = plain(node[2])
        elif node[0] == "element":
            parts = [(*node[:3], plain(node[3]))]
        else:
            parts = [node] if node[1] else []
        for part in parts:
            if part[0] == "text" and found and found[-1][0] == "text":
                found[-1] = ("text", found[-1][1] + part[1])
            else:
                found.append(part)
    return found


class Writing(unittest.TestCase):
    def test_trees(self):
        for tree, text, without in WRITTEN:
            self.assertEqual(write_tree(tree), text)
            self.assertEqual(plain_text(tree), without)
            self.assertEqual(read_tree(text), tree)

    def test_every_sign(self):
        signs = "\n" + "".join(chr(code) for code in range(32, 127) if code != 37)
        for sign in signs:
            escaped = {"&": "&amp;", "<": "&lt;", ">": "&gt;"}.get(sign, sign)
            self.assertEqual(write_tree([("text", "a" + sign + "b")]), "a" + escaped + "b")
            self.assertEqual(plain_text([("text", sign)]), escaped)
            value = {"&": "&amp;", "<": "&lt;", '"': "&quot;"}.get(sign, sign)
            for write in (write_tree, plain_text):
                self.assertEqual(write([("element", "p", [("q", sign)], [])]), f'<p q="{value}"></p>')
        tree = [("text", signs), ("element", "p", [("q", signs)], [("text", signs), ("text", signs)])]
        self.assertEqual(read_tree(write_tree(tree)), tree)

    def test_forty_levels(self):
        tree = [("text", "x"), ("text", "y")]
        for level in range(39):
            tree = [("element", "p", [], tree) if level // 2 else ("await", level + 1, tree)]
        self.assertEqual(read_tree(write_tree(tree)), tree)
        self.assertEqual(plain_text(tree), "<p>" * 37 + "xy" + "</p>" * 37)

    def test_pairs_of_attributes_may_be_lists(self):
        self.assertEqual(write_tree([("element", "p", [["a", "1"]], [])]), '<p a="1"></p>')

    def test_nothing_changes(self):
        for tree, _, _ in WRITTEN:
            kept = copy.deepcopy(tree)
            write_tree(tree)
            plain_text(tree)
            self.assertEqual(tree, kept)

    def test_trees_by_chance(self):
        for seed in range(600):
            tree = TreeMaker(seed).tree(4)
            text = write_tree(tree)
            self.assertEqual(text, written(tree))
            self.assertEqual(repr(read_tree(text)), repr(tree))
            self.assertEqual(plain_text(tree), written(plain(tree)))

    def test_what_is_read_is_written_again(self):
        for text, tree in TREES:
            self.assertEqual(read_tree(write_tree(tree)), tree)
            if "'" not in text:
                self.assertEqual(write_tree(read_tree(text)), text)


class CutOff(unittest.TestCase):
    def wrong_place(self, text):
        try:
            read_tree(text)
        except InvalidDocument as error:
            lines = text.split("\n")
            return sum(len(line) + 1 for line in lines[:error.line - 1]) + error.column - 1
        return None

    def assert_cuts(self, text):
        for at in range(len(text) + 1):
            self.assertEqual(self.wrong_place(text[:at]), first_wrong(text[:at]), text[:at])

    def test_each_written_text(self):
        for tree, text, _ in WRITTEN:
            self.assert_cuts(text)
        for seed in range(60):
            self.assert_cuts(write_tree(TreeMaker(seed).tree(3)))

    def test_each_wrong_text(self):
        for row in WRONG:
            if len(row) < 200:
                self.assert_cuts(row.replace("@", "", 1))

    def test_places_of_cuts(self):
        # A text that is cut off within something is wrong at its end.
        for text, good in [("<a>b</a>", (0, 8)), ("a&amp;b", (0, 1, 6, 7)), ("<!--e-->", (0, 8)), ('<a b="c"></a>', (0, 13)),
                           ("<!--[12-->x<!--]-->", (0, 19))]:
            for at in range(len(text) + 1):
                self.assertEqual(self.wrong_place(text[:at]), None if at in good else at, text[:at])
        # But a mark between texts stands ahead of a text.
        self.assertEqual(self.wrong_place("a<!--t-->"), 1)
        self.assertEqual(self.wrong_place("a<!--t--"), 8)

    def test_texts_that_are_left_as_they_are(self):
        for text in TEXTS:
            self.assertEqual(read_tree(write_tree([("text", text)])), [("text", text)])
