"""The place up to which the tokens of a source have been read into a program."""

from viewloom.errors import InvalidSource
from viewloom.words.tokens import tokens
from viewloom.words.vocabulary import is_capital, is_name, is_tag

LOWEST_LEVEL = 20
CLOSING = "</"


class Cursor:
    """The tokens of a source, the one that stands next, and its level."""

    def __init__(self, source):
        self.row = tokens(source)
        self.at = 0
        self.level = 1

    def sort_here(self):
        """Returns the sort of the token that stands here."""
        return self.row[self.at][0]

    def word_here(self):
        """Returns the word of the token that stands here."""
        return self.row[self.at][1]

    def place(self):
        """Returns the line and the column of the token that stands here."""
        return self.row[self.at][2:]

    def mark(self):
        """Returns the sign or word that stands here, "</" for a closing, None for other tokens."""
        sort = self.sort_here()
        if sort in ("sign", "word"):
            return self.word_here()
        if sort == "closing":
            return CLOSING
        return None

    def fail(self, message):
        """Raises a fault at the token that stands here."""
        line, column = self.place()
        raise InvalidSource(line, column, message)

    def miss(self, expected):
        """Raises the fault that something else than the token that stands here is expected."""
        if self.sort_here() == "end":
            self.fail("unexpected end")
        self.fail(f"expected {expected}")

    def step(self):
        """Returns the word of the token that stands here, and goes on behind it."""
        word = self.word_here()
        self.at += 1
        return word

    def sees(self, mark):
        """Returns whether this sign or word stands here."""
        return self.mark() == mark

    def sees_name(self):
        """Returns whether a name stands here."""
        return self.sort_here() == "word" and is_name(self.word_here())

    def sees_capital(self):
        """Returns whether a capital name stands here."""
        return self.sort_here() == "word" and is_capital(self.word_here())

    def sees_tag(self):
        """Returns whether a tag stands here."""
        return self.sort_here() == "word" and is_tag(self.word_here())

    def take(self, mark):
        """Goes on behind this sign or word, if it stands here; returns whether it does."""
        if not self.sees(mark):
            return False
        self.at += 1
        return True

    def need(self, mark):
        """Goes on behind this sign or word, which must stand here."""
        if not self.take(mark):
            self.miss(mark)

    def need_tag(self):
        """Returns the tag that must stand here, and goes on behind it."""
        if not self.sees_tag():
            self.miss("a tag")
        return self.step()

    def down(self, end):
        """Goes one level down; `end` is what would end the part that begins here at once, or None."""
        self.level += 1
        if self.level > LOWEST_LEVEL and (end is None or not self.sees(end)):
            self.fail("nested too deep")

    def up(self):
        """Goes one level up."""
        self.level -= 1


def read_name(cursor):
    """Returns the name that must stand here, and goes on behind it."""
    if not cursor.sees_name():
        cursor.miss("a name")
    return cursor.step()


def read_more(cursor, read):
    """Returns the list of what stands here, with commas between, each read by a function."""
    found = [read(cursor)]
    while cursor.take(","):
        found.append(read(cursor))
    return found


def read_row(cursor, begin, end, read):
    """Returns the list, perhaps an empty one, between two signs, each member read by a function."""
    found = []
    cursor.need(begin)
    cursor.down(end)
    if not cursor.sees(end):
        found = read_more(cursor, read)
    cursor.up()
    cursor.need(end)
    return found


def read_braces(cursor, read):
    """Returns the list of what stands between braces without commas, each read by a function."""
    found = []
    cursor.need("{")
    cursor.down("}")
    while not cursor.sees("}"):
        found.append(read(cursor))
    cursor.up()
    cursor.need("}")
    return found
