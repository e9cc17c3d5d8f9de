"""Reads written trees."""

from viewloom.errors import InvalidDocument
from viewloom.words.vocabulary import is_digit

LOWEST_LEVEL = 40
MOST_DIGITS = 9
ESCAPES = (("&amp;", "&"), ("&lt;", "<"), ("&gt;", ">"), ("&quot;", '"'))
EMPTY_TEXT = "<!--e-->"
BETWEEN_TEXTS = "<!--t-->"
AWAIT_BEGIN = "<!--[-->"
AWAIT_END = "<!--]-->"
WAITING_BEGIN = "<!--["
COMMENT_END = "-->"
VALUE_BEGIN = '="'


def read_tree(text):
    """Returns the written tree of a text."""
    reader = TreeReader(text)
    while reader.at < len(text):
        reader.read_piece()
    if reader.around:
        reader.fail(len(text))
    return reader.lists[0]


def is_small_letter(sign):
    """Returns whether this is a letter from a to z, not the empty text."""
    return "a" <= sign <= "z"


def is_word_sign(sign):
    """Returns whether this can stand within a word, which the empty text cannot."""
    return is_small_letter(sign) or is_digit(sign) or sign == "-"


class TreeReader:
    """A text, the place up to which it was read, and what is open there."""

    def __init__(self, text):
        self.text = text
        self.at = 0
        # One list of nodes for the outermost level, and one more for each thing in `around`.
        self.lists = [[]]
        # The elements and awaits that are open, without their kids.
        self.around = []
        self.numbers = {}
        self.is_behind_text = False

    def fail(self, at):
        """Raises the error for a place."""
        ahead = self.text[:at]
        raise InvalidDocument(ahead.count("\n") + 1, at - ahead.rfind("\n"))

    def sign_at(self, at):
        """Returns the sign at a place, the empty text at the end."""
        return self.text[at:at + 1]

    def stands(self, mark, at):
        """Returns whether a mark stands at a place. That the text ends within it is raised."""
        part = self.text[at:at + len(mark)]
        if part == mark:
            return True
        if mark.startswith(part):
            self.fail(len(self.text))
        return False

    def check_level(self, at):
        """Raises the error if a node that begins at a place is nested too deep."""
        if len(self.lists) > LOWEST_LEVEL:
            self.fail(at)

    def join_text(self, text):
        """Puts a text at the end of the innermost list."""
        self.lists[-1].append(("text", text))

    def begin_node(self, node):
        """Opens an element or an await."""
        self.around.append(node)
        self.lists.append([])

    def end_node(self):
        """Closes the innermost thing that is open."""
        kids = self.lists.pop()
        node = self.around.pop()
        self.lists[-1].append((*node, kids))

    def read_piece(self):
        """Reads the text, the tag or the comment that stands next."""
        at = self.at
        if self.sign_at(at) != "<":
            self.check_level(at)
            self.join_text(self.take_signs(at, "<"))
            self.is_behind_text = True
            return
        if is_small_letter(self.sign_at(at + 1)):
            self.read_start(at)
        elif self.stands("</", at):
            self.read_end(at)
        else:
            self.read_comment(at)
        self.is_behind_text = False

    def take_signs(self, at, end):
        """Returns what stands between a place and a sign or the end of the text, and goes on to that."""
        signs = []
        while at < len(self.text) and self.text[at] != end:
            sign = self.text[at]
            width = 1
            if sign == "&":
                sign, width = self.escaped(at)
            signs.append(sign)
            at += width
        self.at = at
        return "".join(signs)

    def escaped(self, at):
        """Returns the sign for which an `&` and what follows it stand, and how many signs these are."""
        for mark, sign in ESCAPES:
            if self.stands(mark, at):
                return (sign, len(mark))
        self.fail(at)

    def word_end(self, at):
        """Returns the place behind the word that begins at a place, or this place if there is none."""
        if not is_small_letter(self.sign_at(at)):
            return at
        while is_word_sign(self.sign_at(at)):
            at += 1
        return at

    def read_start(self, at):
        """Reads a start tag."""
        self.check_level(at)
        self.at = self.word_end(at + 1)
        tag = self.text[at + 1:self.at]
        attributes = []
        names = {}
        while not self.stands(">", self.at):
            attributes.append(self.take_attribute(names))
        self.at += 1
        self.begin_node(("element", tag, attributes))

    def take_attribute(self, names):
        """Returns the pair of a name and a text, which a space must begin, and notes the name."""
        at = self.at
        begin = at + 1
        end = self.word_end(begin)
        if self.text[at] != " ":
            self.fail(at)
        if end == begin and end < len(self.text):
            self.fail(at)
        if not self.stands(VALUE_BEGIN, end):
            self.fail(at)
        name = self.text[begin:end]
        if name in names:
            self.fail(begin)
        names[name] = True
        value = self.take_signs(end + len(VALUE_BEGIN), '"')
        if self.at == len(self.text):
            self.fail(self.at)
        self.at += 1
        return (name, value)

    def read_end(self, at):
        """Reads an end tag."""
        if not self.around or self.around[-1][0] != "element":
            self.fail(at)
        mark = "</" + self.around[-1][1] + ">"
        if not self.stands(mark, at):
            self.fail(at)
        self.at = at + len(mark)
        self.end_node()

    def read_comment(self, at):
        """Reads a comment."""
        if self.stands(EMPTY_TEXT, at):
            self.check_level(at)
            self.join_text("")
            self.at = at + len(EMPTY_TEXT)
        elif self.stands(BETWEEN_TEXTS, at):
            self.at = at + len(BETWEEN_TEXTS)
            if not self.is_behind_text or self.sign_at(self.at) in ("", "<"):
                self.fail(at)
        elif self.stands(AWAIT_BEGIN, at):
            self.check_level(at)
            self.begin_node(("await", None))
            self.at = at + len(AWAIT_BEGIN)
        elif self.stands(AWAIT_END, at):
            if not self.around or self.around[-1][0] != "await":
                self.fail(at)
            self.end_node()
            self.at = at + len(AWAIT_END)
        else:
            self.read_waiting(at)

    def read_waiting(self, at):
        """Reads the beginning of an await that waits."""
        if not self.stands(WAITING_BEGIN, at):
            self.fail(at)
        begin = at + len(WAITING_BEGIN)
        end = begin
        while is_digit(self.sign_at(end)):
            end += 1
        digits = self.text[begin:end]
        if not digits or not self.stands(COMMENT_END, end):
            self.fail(at)
        if digits[0] == "0" or len(digits) > MOST_DIGITS or digits in self.numbers:
            self.fail(at)
        self.check_level(at)
        self.numbers[digits] = True
        self.begin_node(("await", int(digits)))
        self.at = end + len(COMMENT_END)
