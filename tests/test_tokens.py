"""Tokens, words and names, and the faults of tokens ([3] to [5])."""

from tests.helpers import SourceCase, source_of
from viewloom.words.reading import parse_expression, parse_program
from viewloom.words.tokens import tokens
from viewloom.words.vocabulary import is_capital, is_name, is_tag

PAIRS = ["==", "!=", "<=", ">=", "&&", "||", "/>"]
SINGLES = list("+-*/<>=!?:.,;()[]{}")
RESERVED = (
    "after await by call catch cleanup component context do each effect else every false for handler if in later let"
    " log null on prevent provide resource slot state stop store true try view"
).split()
SAMPLES = (
    [("sign", word) for word in PAIRS + SINGLES]
    + [("word", word) for word in ["a", "Z", "x_1", "view", "event"]]
    + [("number", word) for word in ["0", "7", "10", str(10 ** 30)]]
    + [("text", word) for word in ["", "a b", 'q"q', "b\\b", "n\nn", "//", "</a"]]
    + [("closing", word) for word in ["a", "Main", "view", "a_1"]]
)


def words(source):
    return [token[:2] for token in tokens(source)]


def run_together(a, b):
    """Returns whether two tokens with nothing between them are read otherwise."""
    if a[0] in ("word", "number", "closing"):
        return b[0] in ("word", "number")
    if a[0] != "sign" or b[0] == "text":
        return False
    both = source_of(a) + source_of(b)
    if both.startswith(("//", "</")) and a[1] in ("/", "<"):
        # A closing begins with "</" too, but behind "<" it stands as "<</".
        return both.startswith("//") or b[0] == "word"
    return a[1] in SINGLES and both[:2] in PAIRS


class Tokens(SourceCase):
    def test_each_token_alone(self):
        for sample in SAMPLES:
            source = source_of(sample)
            self.assertEqual(tokens(source), [(*sample, 1, 1), ("end", "", 1, len(source) + 1)], source)

    def test_two_tokens_with_something_between(self):
        for a in SAMPLES:
            for b in SAMPLES:
                for between in (" ", "   ", " // x \" @ \n"):
                    source = source_of(a) + between + source_of(b)
                    place = (1, len(source_of(a) + between) + 1)
                    if "\n" in between:
                        place = (2, 1)
                    self.assertEqual(tokens(source)[:2], [(*a, 1, 1), (*b, *place)], source)

    def test_two_tokens_with_nothing_between(self):
        for a in SAMPLES:
            for b in SAMPLES:
                if not run_together(a, b):
                    source = source_of(a) + source_of(b)
                    expected = [(*a, 1, 1), (*b, 1, len(source_of(a)) + 1), ("end", "", 1, len(source) + 1)]
                    self.assertEqual(tokens(source), expected, source)

    def test_tokens_that_run_together(self):
        for source, expected in [
            ("ab1", [("word", "ab1")]),
            ("12", [("number", "12")]),
            ("===", [("sign", "=="), ("sign", "=")]),
            ("!==", [("sign", "!="), ("sign", "=")]),
            ("<==", [("sign", "<="), ("sign", "=")]),
            ("<>=", [("sign", "<"), ("sign", ">=")]),
            ("</a>", [("closing", "a"), ("sign", ">")]),
            ("</>", [("sign", "<"), ("sign", "/>")]),
            ("</ a", [("sign", "<"), ("sign", "/"), ("word", "a")]),
            ("</1", [("sign", "<"), ("sign", "/"), ("number", "1")]),
            ("<//a", [("sign", "<")]),
            ("//>", []),
            ("/>//", [("sign", "/>")]),
            ("/ /", [("sign", "/"), ("sign", "/")]),
            ("--", [("sign", "-"), ("sign", "-")]),
        ]:
            self.assertEqual(words(source), [*expected, ("end", "")], source)

    def test_reserved_words_are_words(self):
        self.assertEqual(len(RESERVED), 33)
        for word in RESERVED:
            self.assertEqual(tokens(word)[0], ("word", word, 1, 1))
            self.assertFalse(is_name(word), word)
            self.assertFalse(is_capital(word), word)
            self.assertFalse(is_tag(word), word)
            self.assertEqual(parse_expression(word + "s"), ("name", word + "s"))

    def test_names(self):
        for word, capital, tag in [
            ("a", False, True), ("A", True, False), ("aB", False, False), ("Ab", True, False), ("h1", False, True),
            ("a_b", False, True), ("View", True, False), ("event", False, True), ("store_", False, True),
        ]:
            self.assertEqual((is_name(word), is_capital(word), is_tag(word)), (True, capital, tag), word)

    def test_places(self):
        source = 'a\n\n  12 "x" // y\n// only this\n</b>\n'
        self.assertEqual(
            tokens(source),
            [("word", "a", 1, 1), ("number", "12", 3, 3), ("text", "x", 3, 6), ("closing", "b", 5, 1),
             ("sign", ">", 5, 4), ("end", "", 6, 1)],
        )

    def test_place_of_the_end(self):
        for source, line, column in [("", 1, 1), (" ", 1, 2), ("\n", 2, 1), ("// x", 1, 5), ("a //\n ", 2, 2)]:
            self.assertEqual(tokens(source)[-1], ("end", "", line, column), source)

    def test_texts(self):
        for source, word in [
            ('"a\\"b"', 'a"b'), ('"\\\\"', "\\"), ('"\\\\n"', "\\n"), ('"\\n"', "\n"), ('"\\\\\\""', '\\"'),
            ('"// no </a> comment"', "// no </a> comment"), ("\"'\"", "'"),
        ]:
            self.assertEqual(words(source), [("text", word), ("end", "")], source)

    def test_longest_source(self):
        self.assertEqual(len(tokens("a " * 10000)), 10001)
        self.assertEqual(tokens(" " * 20000), [("end", "", 1, 20001)])
        for call in (tokens, parse_program, parse_expression):
            self.assert_fault(call, "a " * 10000 + "a", 1, 1, "source too long")
            self.assert_fault(call, "\n" * 20000 + '"', 1, 1, "source too long")

    def test_own_list_each_time(self):
        tokens("a b").clear()
        self.assertEqual(len(tokens("a b")), 3)


FAULTS = [
    ("@", 1, "unexpected character"), ("'", 1, "unexpected character"), ("&", 1, "unexpected character"),
    ("|", 1, "unexpected character"), ("& &", 1, "unexpected character"), ("_a", 1, "unexpected character"),
    ("#", 1, "unexpected character"), ("\\", 1, "unexpected character"), ("~", 1, "unexpected character"),
    ("^", 1, "unexpected character"), ("$", 1, "unexpected character"), ("`", 1, "unexpected character"),
    ("&&&", 3, "unexpected character"), ("</_a", 3, "unexpected character"),
    ("1a", 2, "unexpected character"), ("12_", 3, "unexpected character"), ("00", 2, "unexpected character"),
    ("01", 2, "unexpected character"), ("0x", 2, "unexpected character"), ("10Z", 3, "unexpected character"),
    (str(10 ** 30 + 1), 1, "number too large"), ("9" * 31, 1, "number too large"), ("1" * 5000, 1, "number too large"),
    (str(10 ** 31) + "a", 33, "unexpected character"), (str(10 ** 31) + "_", 33, "unexpected character"),
    ("1" * 5000 + "x", 5001, "unexpected character"),
    ('"a', 1, "text not closed"), ('"', 1, "text not closed"), ('"a\n"', 1, "text not closed"),
    ('"a\\"', 1, "text not closed"), ('"a\\', 1, "text not closed"), ('"a\\\n"', 1, "text not closed"),
    ('"\\q', 1, "text not closed"), ('"\\q\n"', 1, "text not closed"), ('"a" "', 5, "text not closed"),
    ('"\\q"', 2, "unknown escape"), ('"ab\\tc"', 4, "unknown escape"), ('"\\\\\\N"', 4, "unknown escape"),
    ('"\\ "', 2, "unknown escape"), ('"\\a\\b"', 2, "unknown escape"), ('"\\\'"', 2, "unknown escape"),
]


class TokenFaults(SourceCase):
    def test_alone(self):
        for source, column, message in FAULTS:
            for call in (tokens, parse_program, parse_expression):
                self.assert_fault(call, source, 1, column, message)

    def test_behind_right_tokens_and_lines(self):
        for ahead in ['a "b\\"" 1.', "view{} //x @\n\n ", '</a> "\\n"\n']:
            line = ahead.count("\n") + 1
            width = len(ahead) - ahead.rfind("\n") - 1
            for source, column, message in FAULTS:
                for call in (tokens, parse_program, parse_expression):
                    self.assert_fault(call, ahead + source, line, width + column, message)

    def test_first_from_the_left(self):
        for a, column, message in FAULTS:
            for b, _, _ in FAULTS:
                # What stands behind a text that is not closed must not close it.
                self.assert_fault(tokens, a + " \n " + b, 1, column, message)

    def test_ahead_of_faults_of_the_grammar(self):
        self.assert_fault(parse_program, "store 1 ( view } @", 1, 18, "unexpected character")
        self.assert_fault(parse_expression, "(" * 25 + '"', 1, 26, "text not closed")
