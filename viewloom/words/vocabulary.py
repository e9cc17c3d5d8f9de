"""Which words are names, and how tightly signs bind."""

RESERVED = (
    "after", "await", "by", "call", "catch", "cleanup", "component", "context", "do", "each", "effect", "else",
    "every", "false", "for", "handler", "if", "in", "later", "let", "log", "null", "on", "prevent", "provide",
    "resource", "slot", "state", "stop", "store", "true", "try", "view",
)
SIGN_LEVELS = {
    "||": 1, "&&": 2, "==": 3, "!=": 3, "<": 4, "<=": 4, ">": 4, ">=": 4, "+": 5, "-": 5, "*": 6, "/": 6,
}
PREFIX_LEVEL = 7
TIGHTEST_LEVEL = 8


def is_name(word):
    """Returns whether a word is a name."""
    return word not in RESERVED


def is_capital(word):
    """Returns whether a word is a capital name."""
    return is_name(word) and "A" <= word[0] <= "Z"


def is_tag(word):
    """Returns whether a word is a tag."""
    return is_name(word) and word == word.lower()


def sign_level(sign):
    """Returns the level of a binary sign, from 1 for the loosest, or 0 for all else."""
    return SIGN_LEVELS.get(sign, 0)


def is_letter(sign):
    """Returns whether a sign is a letter."""
    return "a" <= sign <= "z" or "A" <= sign <= "Z"


def is_digit(sign):
    """Returns whether a sign is a digit."""
    return "0" <= sign <= "9"
