"""The circuit that a part of a book tells, and the names of its wires."""

from lookundone.booknames import part_names
from lookundone.booktexts import many_rows, part_starts
from lookundone.circuitchanges import gates_back
from lookundone.errors import BadScore, need
from lookundone.exprs import worth_of
from lookundone.gatekinds import GREATEST_WIRES, ccz_gates

MOST_TIMES = 64


def wire_names(book, name):
    """A tuple of the texts of the wires of the part."""
    need(is_top(book, name), "name")
    return tuple(text for wire in part_named(book, name)[2] for text in texts_of_wire(wire))


def flat(book, name):
    """The circuit of the part, with the gates of its lines."""
    need(is_top(book, name), "name")
    refuse_twice(book)
    places = {}
    many = 0
    for wire, width in part_named(book, name)[2]:
        behind = many + width_in_wires(width)
        places[wire] = (width, tuple(range(many, behind)))
        many = behind
    return (many, tuple(gates_of_part(book, (name,), places)))


def part_named(book, name):
    """The first part of this name, None if there is none."""
    for part in book:
        if part[1] == name:
            return part
    return None


def width_in_wires(width):
    """How many wires something of this width has: a lone wire has the width 0."""
    return width if width else 1


def is_top(book, name):
    """True if name is that of a part whose wires a circuit can have."""
    if name not in part_names(book):
        return False
    return sum(width_in_wires(wire[1]) for wire in part_named(book, name)[2]) <= GREATEST_WIRES


def texts_of_wire(wire):
    """The texts of a wire, or of all wires of a bus."""
    name, width = wire
    return [f"{name}[{k}]" for k in range(width)] if width else [name]


def refuse_twice(book):
    """Refuse a book in which two parts, or two wires of one part, have one name."""
    names = part_names(book)
    for k, start in enumerate(part_starts(book)):
        wires = [wire[0] for wire in book[k][2]]
        if names[k] in names[:k] or len(set(wires)) < len(wires):
            raise BadScore("twice", start)


# In what follows a scope is a triple (book, chain, places): chain has the names of the parts that are being
# done, the innermost one last; places tells the pair (width, wires of the circuit) of each wire of this one.
# names has the pairs (name, integer) of the fors around a line, the innermost one last.


def gates_of_part(book, chain, places):
    """A list of the gates of the last part of the chain."""
    name = chain[-1]
    start = part_starts(book)[part_names(book).index(name)]
    return gates_of_lines((book, chain, places), (), part_named(book, name)[3], start + 1)


def gates_of_lines(scope, names, lines, row):
    """A list of the gates of the lines, the first of which begins at this row of the book's text."""
    gates = []
    for line in lines:
        refuse_line(scope, names, line, row)
        gates_of_line = DOERS[line[0]]
        gates.extend(gates_of_line(scope, names, line, row))
        row += many_rows(line)
    return gates


def refuse_line(scope, names, line, row):
    """Refuse a line that can't be done."""
    for word, applies in FAULTS:
        if applies(scope, names, line):
            raise BadScore(word, row)


def ws_of(line):
    """The wires, items and buses that a line names."""
    if line[0] == "turn":
        return (line[2],)
    return line[2] if line[0] in ("gate", "use") else ()


def exprs_of(line):
    """The exprs of a line, those of its items among them."""
    exprs = [w[2] for w in ws_of(line) if w[0] == "item"]
    if line[0] in ("turn", "times"):
        exprs.append(line[1])
    if line[0] == "for":
        exprs.extend(line[2:4])
    return exprs


def vars_of(expr):
    """The names in an expr."""
    if expr[0] == "var":
        return [expr[1]]
    if expr[0] == "num":
        return []
    return [name for part in expr[1:] for name in vars_of(part)]


def wires_of(scope, names, w):
    """The wires of the circuit that a wire, item or bus tells."""
    wires = scope[2][w[1]][1]
    return (wires[worth_of(w[2], names)],) if w[0] == "item" else wires


def all_wires(scope, names, line):
    """The wires of the circuit that a line names, one behind the other."""
    return [wire for w in ws_of(line) for wire in wires_of(scope, names, w)]


def lacks_part(scope, names, line):
    """True if the line uses no part of the book."""
    return line[0] == "use" and line[1] not in part_names(scope[0])


def is_ring(scope, names, line):
    """True if the line uses a part within itself."""
    return line[0] == "use" and line[1] in scope[1]


def lacks_name(scope, names, line):
    """True if there is no such wire, or no such name in an expr."""
    known = [name for name, _ in names]
    if any(w[1] not in scope[2] for w in ws_of(line)):
        return True
    return any(name not in known for expr in exprs_of(line) for name in vars_of(expr))


def is_great(scope, names, line):
    """True if something in an expr is too great; its names are known."""
    try:
        for expr in exprs_of(line):
            worth_of(expr, names)
    except BadScore:
        return True
    return False


def mistakes_bus(scope, names, line):
    """True if a bus stands for a wire, or a wire for a bus."""
    for w in ws_of(line):
        is_bus = scope[2][w[1]][0] > 0
        if is_bus and w[0] == "wire" and line[0] != "use":
            return True
        if not is_bus and w[0] == "item":
            return True
    return False


def misses_place(scope, names, line):
    """True if an item is not within its bus."""
    items = [w for w in ws_of(line) if w[0] == "item"]
    return any(not 0 <= worth_of(w[2], names) < scope[2][w[1]][0] for w in items)


def is_unlike(scope, names, line):
    """True if the line uses a part with other widths than those of its wires."""
    if line[0] != "use":
        return False
    given = [scope[2][w[1]][0] if w[0] == "wire" else 0 for w in line[2]]
    return given != [width for _, width in part_named(scope[0], line[1])[2]]


def is_same(scope, names, line):
    """True if the line names a wire twice."""
    wires = all_wires(scope, names, line)
    return len(set(wires)) < len(wires)


def is_wrong_times(scope, names, line):
    """True if the line's block is to be done too often, or less than not at all."""
    if line[0] == "times":
        return not 0 <= worth_of(line[1], names) <= MOST_TIMES
    if line[0] == "for":
        return worth_of(line[3], names) - worth_of(line[2], names) + 1 > MOST_TIMES
    return False


FAULTS = (
    ("part", lacks_part),
    ("ring", is_ring),
    ("name", lacks_name),
    ("great", is_great),
    ("bus", mistakes_bus),
    ("place", misses_place),
    ("width", is_unlike),
    ("same", is_same),
    ("times", is_wrong_times),
)


def do_gate(scope, names, line, row):
    """The gates of the line of a gate; the others below tell it of theirs."""
    wires = all_wires(scope, names, line)
    word = line[1]
    if word == "x":
        return [("h", *wires), ("turn", 4, *wires), ("h", *wires)]
    if word == "z":
        return [("turn", 4, *wires)]
    if word == "ccz":
        return list(ccz_gates(*wires))
    return [(word, *wires)]


def do_turn(scope, names, line, row):
    """The gates of the line of a turn."""
    turn = worth_of(line[1], names) % 8
    wires = all_wires(scope, names, line)
    return [("turn", turn, *wires)] if turn else []


def do_use(scope, names, line, row):
    """The gates of the line that uses a part."""
    book, chain, _ = scope
    places = {}
    for (wire, width), w in zip(part_named(book, line[1])[2], line[2]):
        places[wire] = (width, wires_of(scope, names, w))
    return gates_of_part(book, (*chain, line[1]), places)


def do_times(scope, names, line, row):
    """The gates of a block of lines done several times."""
    gates = []
    for _ in range(worth_of(line[1], names)):
        gates.extend(gates_of_lines(scope, names, line[2], row + 1))
    return gates


def do_for(scope, names, line, row):
    """The gates of a block of lines done with a name."""
    gates = []
    for worth in range(worth_of(line[2], names), worth_of(line[3], names) + 1):
        gates.extend(gates_of_lines(scope, (*names, (line[1], worth)), line[4], row + 1))
    return gates


def do_back(scope, names, line, row):
    """The gates of a block of lines done backwards."""
    return gates_back(gates_of_lines(scope, names, line[1], row + 1))


DOERS = {"gate": do_gate, "turn": do_turn, "use": do_use, "times": do_times, "for": do_for, "back": do_back}
