"""A second, plain reader of texts: by patterns, and by calls within calls for the blocks."""

import re

NAME = "[a-z]{1,8}"
FORMS = (
    (f"({NAME}) = ({NAME})\\(((?:{NAME}(?:, {NAME}){{0,2}})?)\\)",
     lambda m: ("note", m[1], m[2], tuple(m[3].split(", ")) if m[3] else ())),
    (f"({NAME}) = ({NAME})", lambda m: ("copy", m[1], m[2])),
    (f"({NAME}) = (0|-?[1-9][0-9]{{0,29}})", lambda m: ("give", m[1], int(m[2]))),
    (f"(ask|print) ({NAME})", lambda m: (m[1], m[2])),
)


class Wrong(Exception):
    def __init__(self, line):
        self.line = line


def plain_row(text):
    for pattern, made in FORMS:
        found = re.fullmatch(pattern, text)
        if found:
            return made(found)
    return None


class PlainReader:
    def __init__(self, text, row=plain_row):
        self.row = row
        self.lines = text.split("\n")
        self.rest = self.lines.pop()
        self.at = 0

    def blanks(self):
        """How far in the next line stands; none is further in than what is over."""
        if self.at >= len(self.lines):
            return -1
        line = self.lines[self.at]
        return len(line) - len(line.lstrip(" "))

    def word(self):
        return self.lines[self.at][self.blanks():]

    def take_word(self, margin):
        """The word of the next line, which stands just so far in."""
        if self.blanks() != margin:
            raise Wrong(self.at + 1)
        word = self.word()
        self.at += 1
        return word

    def block(self, margin):
        """All rows from here on that stand so far in, or further."""
        rows = []
        while self.blanks() >= margin and not (self.blanks() == margin and self.word() == "or"):
            word = self.take_word(margin)
            if word == "either":
                first = self.block(margin + 2)
                if self.blanks() != margin or self.word() != "or":
                    raise Wrong(self.at + 1)
                self.at += 1
                rows.append(("either", first, self.block(margin + 2)))
            elif word == "again":
                rows.append(("again", self.block(margin + 2)))
            elif self.row(word) is None:
                raise Wrong(self.at)
            else:
                rows.append(self.row(word))
        if self.at < len(self.lines) and self.blanks() % 2:
            raise Wrong(self.at + 1)
        return tuple(rows)


def plain_read(text):
    """The block that a text tells, or the number of the first wrong line."""
    reader = PlainReader(text)
    try:
        block = reader.block(0)
    except Wrong as wrong:
        return wrong.line
    if reader.at < len(reader.lines) or reader.rest:
        return reader.at + 1 if reader.at < len(reader.lines) else len(reader.lines) + 1
    return block


def plain_call_row(text):
    """The row of a text in a book."""
    found = re.fullmatch("call (0|[1-9][0-9]{0,8})", text)
    return ("call", int(found[1])) if found else plain_row(text)


def plain_read_blocks(text):
    """The tuple of blocks that a text tells, or the number of the first wrong line."""
    reader = PlainReader(text, plain_call_row)
    blocks = []
    try:
        while reader.at < len(reader.lines):
            if reader.take_word(0) != "block":
                raise Wrong(reader.at)
            blocks.append(reader.block(2))
    except Wrong as wrong:
        return wrong.line
    return len(reader.lines) + 1 if reader.rest else tuple(blocks)


def plain_journal_rows(functions, text):
    """The list of the rows that a journal's whole lines tell, and how many signs they take; drops are rows, too."""
    rows, many, written = [], 0, set()
    for line in re.findall("[^\n]*\n", text):
        found = re.fullmatch("(.*) #([0-9]+)\n", line)
        if not found or found[2] != str(sum(ord(sign) * (at + 1) for at, sign in enumerate(found[1])) % 9973):
            break
        drop = re.fullmatch(f"drop ({NAME})", found[1])
        row = ("drop", drop[1]) if drop else plain_row(found[1])
        if row is None or (row[0] == "note" and row[2] not in functions) or (drop and row[1] not in written):
            break
        if row[0] in ("note", "copy", "give"):
            written.add(row[1])
        written -= {row[1]} if drop else set()
        rows.append(row)
        many += len(line)
    return rows, many
