"""Texts: rows and programs as lines of signs."""

from putoffpiles.errors import NoRow
from putoffpiles.programs import blocks_of, is_row

MARGIN = "  "


def row_text(row):
    """The text of a row that has no blocks."""
    if not is_row(1, row) or blocks_of(row):
        raise NoRow()
    if row[0] == "note":
        parts = ", ".join(row[3])
        return f"{row[1]} = {row[2]}({parts})"
    if row[0] in ("copy", "give"):
        return f"{row[1]} = {row[2]}"
    return f"{row[0]} {row[1]}"


def block_lines(block):
    """The list of the lines of a block."""
    found = []
    for row in block:
        blocks = [[MARGIN + line for line in block_lines(inner)] for inner in blocks_of(row)]
        if row[0] == "either":
            found.extend(["either", *blocks[0], "or", *blocks[1]])
        elif row[0] == "again":
            found.extend(["again", *blocks[0]])
        elif row[0] == "call":
            found.append(f"call {row[1]}")
        else:
            found.append(row_text(row))
    return found


def program_text(program):
    """The text of a program, each line closed by a line feed."""
    return "".join([line + "\n" for line in block_lines(program.block)])
