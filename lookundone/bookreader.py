"""The book of a score."""

from lookundone.exprs import take_expr
from lookundone.words import GATE_WIRES, LINE_END, TEXT_END, Reader, told_part, words_in


def read_book(text):
    """The book that the text tells."""
    reader = Reader(words_of_text(text))
    parts = [take_part(reader)]
    while reader.here() != TEXT_END:
        parts.append(take_part(reader))
    return tuple(parts)


def words_of_text(text):
    """The triples (word, line, column) of all words and ends."""
    words = []
    lines = text.split("\n")
    for k, line in enumerate(lines):
        told = told_part(line)
        row = [(word, k, column) for word, column in words_in(told)]
        # A line without words has no end either: it is passed over.
        if row:
            words.extend(row)
            words.append((LINE_END, k, len(told)))
    words.append((TEXT_END, len(lines), 0))
    return words


def take_part(reader):
    """The part that must stand at the reader, which passes it."""
    reader.expect("part")
    name = reader.take_name()
    wires = [take_wire(reader)]
    while reader.here() != LINE_END:
        wires.append(take_wire(reader))
    return ("part", name, tuple(wires), take_block(reader))


def take_wire(reader):
    """The wire or bus that must stand at the reader, which passes it."""
    name = reader.take_name()
    if reader.here() != "[":
        return (name, 0)
    reader.take()
    width = reader.take_width()
    reader.expect("]")
    return (name, width)


def take_block(reader):
    """The lines between the end of a first line and the last line, which the reader passes."""
    reader.expect(LINE_END)
    lines = []
    while reader.here() != "end":
        lines.append(take_line(reader))
    reader.take()
    reader.expect(LINE_END)
    return tuple(lines)


def take_line(reader):
    """The line or block that must stand at the reader, which passes it."""
    word = reader.here()
    if word in GATE_WIRES:
        return take_gate(reader)
    if word not in TAKERS:
        reader.refuse()
    take_this = TAKERS[word]
    reader.take()
    return take_this(reader)


def take_gate(reader):
    """The line of a gate."""
    word = reader.take()
    ws = [take_w(reader) for _ in range(GATE_WIRES[word])]
    reader.expect(LINE_END)
    return ("gate", word, tuple(ws))


def take_w(reader):
    """The wire, item or bus that must stand at the reader, which passes it."""
    name = reader.take_name()
    if reader.here() != "[":
        return ("wire", name)
    reader.take()
    expr = take_expr(reader)
    reader.expect("]")
    return ("item", name, expr)


def take_turn(reader):
    """The line of a turn, behind its first word."""
    expr = take_expr(reader)
    w = take_w(reader)
    reader.expect(LINE_END)
    return ("turn", expr, w)


def take_use(reader):
    """The line that uses a part, behind its first word."""
    name = reader.take_name()
    ws = [take_w(reader)]
    while reader.here() != LINE_END:
        ws.append(take_w(reader))
    reader.take()
    return ("use", name, tuple(ws))


def take_times(reader):
    """The block of lines done several times, behind its first word."""
    expr = take_expr(reader)
    return ("times", expr, take_block(reader))


def take_for(reader):
    """The block of lines done with a name, behind its first word."""
    name = reader.take_name()
    first = take_expr(reader)
    reader.expect("to")
    last = take_expr(reader)
    return ("for", name, first, last, take_block(reader))


def take_back(reader):
    """The block of lines done backwards, behind its first word."""
    return ("back", take_block(reader))


TAKERS = {"turn": take_turn, "use": take_use, "times": take_times, "for": take_for, "back": take_back}
