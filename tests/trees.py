"""Written trees for tests: writing them, making them by chance, and telling the first wrong place in another way."""

import random
import re

TEXTS = ["a", "<&>\"'", "x y\nz", "&amp;", "<!--e-->", "0", "[", "-->", "\n"]
WORDS = ["a", "p", "h1", "my-tag", "x--", "data-2"]


def written(nodes):
    """Returns the text of a written tree ([65])."""
    pieces = []
    ahead = None
    for node in nodes:
        if node[0] == "text":
            if ahead is not None and ahead[0] == "text" and ahead[1] and node[1]:
                pieces.append("<!--t-->")
            text = node[1].replace("&", "&amp;").replace("<", "&lt;").replace(">", "&gt;")
            pieces.append(text or "<!--e-->")
        elif node[0] == "element":
            pieces.append("<" + node[1])
            for name, text in node[2]:
                text = text.replace("&", "&amp;").replace("<", "&lt;").replace('"', "&quot;")
                pieces.append(f' {name}="{text}"')
            pieces.append(">" + written(node[3]) + "</" + node[1] + ">")
        else:
            number = "" if node[1] is None else str(node[1])
            pieces.append("<!--[" + number + "-->" + written(node[2]) + "<!--]-->")
        ahead = node
    return "".join(pieces)


class TreeMaker:
    """Makes written trees by chance, always the same ones for a number."""

    def __init__(self, seed):
        self.chance = random.Random(seed)
        self.number = 0

    def tree(self, room):
        return [self.node(room) for _ in range(self.chance.randint(0, 4))]

    def node(self, room):
        chance = self.chance
        word = chance.choice(["text", "text", "element", "await"]) if room else "text"
        if word == "text":
            return (word, chance.choice(["", *TEXTS]))
        if word == "element":
            names = chance.sample(WORDS, chance.randint(0, 3))
            attributes = [(name, chance.choice(["", *TEXTS])) for name in names]
            return (word, chance.choice(WORDS), attributes, self.tree(room - 1))
        number = None
        if chance.random() < 0.5:
            self.number += chance.choice([1, 7, 1000])
            number = self.number
        return (word, number, self.tree(room - 1))


def first_wrong(text):
    """Returns the index of the first wrong place of a text, or None."""
    marks = ["<!--e-->", "<!--t-->", "<!--[-->", "<!--]-->"]
    at, around, numbers, behind = 0, [], set(), False
    while at < len(text):
        rest = text[at:]
        deep = len(around) >= 40
        was_behind, behind = behind, False
        if rest[0] != "<":
            run = re.match("[^<]+", rest)[0]
            wrong = wrong_escape(run, rest)
            if deep or wrong is not None:
                return at if deep else (len(text) if wrong == "end" else at + wrong)
            at, behind = at + len(run), True
        elif re.match("<[a-z]", rest):
            if deep:
                return at
            found = start_tag(rest)
            if not isinstance(found, tuple):
                return len(text) if found == "end" else at + found
            around.append(found[0])
            at += found[1]
        elif rest.startswith("</"):
            right = "</" + (around[-1] if around else "") + ">"
            if not around or around[-1] == "<" or not (rest.startswith(right) or right.startswith(rest)):
                return at
            if not rest.startswith(right):
                return len(text)
            around.pop()
            at += len(right)
        elif any(mark.startswith(rest) for mark in marks) and rest not in marks:
            return len(text)
        elif re.fullmatch("<!--\\[[0-9]+(-|--)?", rest) or rest == "<":
            return len(text)
        else:
            mark = re.match("<!--(e|t|\\[([0-9]*)|\\])-->", rest)
            if not mark:
                return at
            word = mark[1]
            at_next = at + len(mark[0])
            if word == "t" and (not was_behind or text[at_next:at_next + 1] in ("", "<")):
                return at
            if word == "]":
                if not around or around[-1] != "<":
                    return at
                around.pop()
            elif word != "t":
                if deep:
                    return at
                if mark[2] and (mark[2][0] == "0" or len(mark[2]) > 9 or mark[2] in numbers):
                    return at
                if word[0] == "[":
                    around.append("<")
                    numbers.add(mark[2] or "none")
            at = at_next
    return len(text) if around else None


def wrong_escape(run, rest):
    """Returns the index of the first wrong "&" of a run, "end" if the rest ends within an escape, or None."""
    for mark in re.finditer("&", run):
        behind = rest[mark.start():]
        if any(escape.startswith(behind) and escape != behind for escape in ("&amp;", "&lt;", "&gt;", "&quot;")):
            return "end"
        if not re.match("&(amp|lt|gt|quot);", behind):
            return mark.start()
    return None


def start_tag(rest):
    """Returns the tag and the length of a start tag, or the index of the wrong place, or "end"."""
    tag = re.match("<([a-z][a-z0-9-]*)", rest)
    at = tag.end()
    names = []
    while True:
        if at == len(rest):
            return "end"
        if rest[at] == ">":
            return (tag[1], at + 1)
        if re.fullmatch(" ([a-z][a-z0-9-]*=?)?", rest[at:]):
            return "end"
        begin = re.match(' ([a-z][a-z0-9-]*)="', rest[at:])
        if not begin:
            return at
        if begin[1] in names:
            return at + 1
        names.append(begin[1])
        at += begin.end()
        run = re.match('[^"]*', rest[at:])[0]
        wrong = wrong_escape(run, rest[at:])
        if wrong is not None:
            return "end" if wrong == "end" else at + wrong
        at += len(run)
        if at == len(rest):
            return "end"
        at += 1
