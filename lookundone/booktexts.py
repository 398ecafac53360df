"""The one text of a book, and which of its lines tells what."""

from lookundone.exprs import expr_text


def book_text(book):
    """A score of book."""
    return "\n".join(row for part in book for row in part_rows(part))


def part_rows(part):
    """The rows of a part."""
    _, name, wires, lines = part
    wires_text = " ".join(wire_text(wire) for wire in wires)
    return block_rows(f"part {name} {wires_text}", lines)


def wire_text(wire):
    """The text of a wire or bus of a part."""
    name, width = wire
    return f"{name}[{width}]" if width else name


def block_rows(first, lines):
    """The first row, the rows of the lines two blanks further in, the last row."""
    inner = ["  " + row for line in lines for row in line_rows(line)]
    return [first, *inner, "end"]


def line_rows(line):
    """The rows of a line, of all of it if it is a block."""
    if line[0] in ("times", "for", "back"):
        return block_rows(first_row(line), line[-1])
    return [first_row(line)]


def first_row(line):
    """The row of a line, the first one of a block."""
    kind = line[0]
    if kind == "gate":
        return f"{line[1]} {ws_text(line[2])}"
    if kind == "use":
        return f"use {line[1]} {ws_text(line[2])}"
    if kind == "turn":
        return f"turn {expr_text(line[1])} {w_text(line[2])}"
    if kind == "times":
        return f"times {expr_text(line[1])}"
    if kind == "for":
        return f"for {line[1]} {expr_text(line[2])} to {expr_text(line[3])}"
    return "back"


def ws_text(ws):
    """The text of several wires, items and buses."""
    return " ".join(w_text(w) for w in ws)


def w_text(w):
    """The text of a wire, an item or a bus."""
    return w[1] if w[0] == "wire" else f"{w[1]}[{expr_text(w[2])}]"


def many_rows(line):
    """How many rows of the text a line has."""
    if line[0] in ("times", "for", "back"):
        return 2 + sum(many_rows(inner) for inner in line[-1])
    return 1


def part_starts(book):
    """The row of the text at which each part begins."""
    starts = []
    row = 0
    for part in book:
        starts.append(row)
        row += 2 + sum(many_rows(line) for line in part[3])
    return starts
