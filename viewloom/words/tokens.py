"""Reads a source into its tokens."""

from viewloom.errors import InvalidSource
from viewloom.words.vocabulary import is_digit, is_letter

LONGEST_SOURCE = 20000
LARGEST_NUMBER = 10 ** 30
MOST_DIGITS = 31
PAIRS = ("==", "!=", "<=", ">=", "&&", "||", "/>")
SINGLES = "+-*/<>=!?:.,;()[]{}"
ESCAPES = {'"': '"', "\\": "\\", "n": "\n"}


def tokens(source):
    """Returns the list of the tokens of a source, the last one of the sort "end"."""
    if len(source) > LONGEST_SOURCE:
        raise InvalidSource(1, 1, "source too long")
    scanner = Scanner(source)
    found = [scanner.token()]
    while found[-1][0] != "end":
        found.append(scanner.token())
    return found


def is_word_sign(sign):
    """Returns whether a sign can stand within a word."""
    return is_letter(sign) or is_digit(sign) or sign == "_"


class Scanner:
    """A source, and the place up to which its tokens were read."""

    def __init__(self, source):
        # One newline more than the source has ends each token, so that no place behind it is looked at.
        self.source = source + "\n"
        self.length = len(source)
        self.at = 0
        self.line = 1
        self.line_begin = 0

    def column_of(self, at):
        """Returns the column of a place on the present line."""
        return at - self.line_begin + 1

    def fail(self, at, message):
        """Raises the fault at a place on the present line."""
        raise InvalidSource(self.line, self.column_of(at), message)

    def skip(self):
        """Goes on behind the spaces, newlines and comments that stand here."""
        while self.at < self.length:
            sign = self.source[self.at]
            if sign == "\n":
                self.line += 1
                self.line_begin = self.at + 1
                self.at += 1
            elif sign == " ":
                self.at += 1
            elif self.source.startswith("//", self.at):
                self.at = self.source.find("\n", self.at)
            else:
                return

    def token(self):
        """Returns the next token."""
        self.skip()
        column = self.column_of(self.at)
        sort = self.next_sort()
        return (sort, self.take_word(sort), self.line, column)

    def next_sort(self):
        """Returns the sort of the token that begins here."""
        sign = self.source[self.at]
        if self.at == self.length:
            return "end"
        if is_letter(sign):
            return "word"
        if is_digit(sign):
            return "number"
        if sign == '"':
            return "text"
        if self.source.startswith("</", self.at) and is_letter(self.source[self.at + 2]):
            return "closing"
        return "sign"

    def take_word(self, sort):
        """Returns the word of the token of a sort that begins here, and goes on behind it."""
        if sort == "end":
            return ""
        if sort == "number":
            return self.take_number()
        if sort == "text":
            return self.take_text()
        if sort == "sign":
            return self.take_sign()
        if sort == "closing":
            self.at += len("</")
        return self.take_name()

    def take_until(self, end):
        """Returns what stands between here and a place, and goes on to it."""
        word = self.source[self.at:end]
        self.at = end
        return word

    def take_name(self):
        """Returns the word that begins here."""
        end = self.at
        while is_word_sign(self.source[end]):
            end += 1
        return self.take_until(end)

    def take_number(self):
        """Returns the digits of the number that begins here."""
        end = self.at + 1
        while self.source[self.at] != "0" and is_digit(self.source[end]):
            end += 1
        if is_word_sign(self.source[end]):
            self.fail(end, "unexpected character")
        digits = self.source[self.at:end]
        if len(digits) > MOST_DIGITS or int(digits) > LARGEST_NUMBER:
            self.fail(self.at, "number too large")
        return self.take_until(end)

    def take_sign(self):
        """Returns the sign that begins here."""
        if self.source[self.at:self.at + 2] in PAIRS:
            return self.take_until(self.at + 2)
        if self.source[self.at] not in SINGLES:
            self.fail(self.at, "unexpected character")
        return self.take_until(self.at + 1)

    def take_text(self):
        """Returns what the text that begins here stands for."""
        end = self.text_end()
        signs = []
        at = self.at + 1
        while at < end:
            sign = self.source[at]
            if sign == "\\":
                if self.source[at + 1] not in ESCAPES:
                    self.fail(at, "unknown escape")
                sign = ESCAPES[self.source[at + 1]]
                at += 1
            signs.append(sign)
            at += 1
        self.at = end + 1
        return "".join(signs)

    def text_end(self):
        """Returns the place of the quote that ends the text that begins here."""
        at = self.at + 1
        while self.source[at] != '"':
            # A backslash hides the quote behind it, but never a newline.
            if self.source[at] == "\\" and self.source[at + 1] != "\n":
                at += 1
            elif self.source[at] == "\n":
                self.fail(self.at, "text not closed")
            at += 1
        return at
