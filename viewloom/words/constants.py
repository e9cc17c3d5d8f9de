"""Reads the constants of stores."""

from viewloom.words.cursor import read_name, read_row


def read_constant(cursor):
    """Returns the value of the constant that stands here."""
    if cursor.sort_here() == "number":
        return int(cursor.step())
    if cursor.sort_here() == "text":
        return cursor.step()
    if cursor.sees("["):
        return read_row(cursor, "[", "]", read_constant)
    if cursor.sees("{"):
        return read_constant_record(cursor)
    if cursor.take("-"):
        return read_negative(cursor)
    if cursor.take("null"):
        return None
    if cursor.take("true"):
        return True
    if not cursor.take("false"):
        cursor.miss("a constant")
    return False


def read_negative(cursor):
    """Returns the negative of the number that stands behind a minus sign."""
    cursor.down(None)
    if cursor.sort_here() != "number":
        cursor.miss("a number")
    number = int(cursor.step())
    cursor.up()
    return -number


def read_constant_record(cursor):
    """Returns the record that stands here."""
    record = {}
    cursor.need("{")
    cursor.down("}")
    if not cursor.sees("}"):
        read_constant_field(cursor, record)
        while cursor.take(","):
            read_constant_field(cursor, record)
    cursor.up()
    cursor.need("}")
    return record


def read_constant_field(cursor, record):
    """Reads the field that stands here into a record."""
    if cursor.sees_name() and cursor.word_here() in record:
        cursor.fail("field stands twice")
    name = read_name(cursor)
    cursor.need(":")
    record[name] = read_constant(cursor)
