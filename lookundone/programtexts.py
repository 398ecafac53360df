"""The one text of a program, and the program of such a text."""

from lookundone.errors import InvalidRow, InvalidText
from lookundone.plantexts import number_of_word, row_text
from lookundone.programchecker import program_fault

# The words of each line, each with how many numbers stand behind it, None for any.
LINE_FORMS = {
    "program": (("program", 0),),
    "ins": (("ins", None),),
    "new": (("new", 1),),
    "tie": (("tie", 2),),
    "flip": (("flip", 1), ("by", None)),
    "sign": (("sign", 1), ("by", None)),
    "look": (("look", 2), ("waits", None), ("adds", None)),
    "outs": (("outs", None),),
    "turns": (("turns", None),),
    "end": (("end", 0),),
}
COMMAND_WORDS = ("new", "tie", "flip", "sign", "look")
# Which words may begin the line behind one that begins so; any may stand where commands do, or the outs.
NEXT_WORDS = {"program": ("ins",), "outs": ("turns",), "turns": ("end",), "end": ()}


def program_text(program):
    """The lines of the program."""
    ins, outs, commands, turns = program
    lines = ["program", row_text("ins", ins)]
    lines.extend([command_text(command) for command in commands])
    lines.extend([row_text("outs", outs), row_text("turns", turns), "end"])
    return "\n".join(lines)


def command_text(command):
    """The line of the command."""
    word = command[0]
    if word == "look":
        _, dot, turn, waits, adds = command
        return " ".join([row_text("look", (dot, turn)), row_text("waits", waits), row_text("adds", adds)])
    if word in ("new", "tie"):
        return row_text(word, command[1:])
    return " ".join([row_text(word, command[1:2]), row_text("by", command[2])])


def read_program(text):
    """The program that has just this text."""
    rows = []
    lines = text.split("\n")
    for k, line in enumerate(lines):
        row = read_line(line)
        if row is None or row[0][0] not in words_behind(rows):
            raise InvalidText(k, 0)
        rows.append(row)
    if rows[-1][0][0] != "end":
        raise InvalidText(len(lines), 0)
    program = program_of_rows(rows)
    fault = program_fault(program)
    if fault is not None:
        raise InvalidRow(fault[1])
    return program


def words_behind(rows):
    """The words with which the line behind these rows may begin."""
    if not rows:
        return ("program",)
    return NEXT_WORDS.get(rows[-1][0][0], (*COMMAND_WORDS, "outs"))


def read_line(line):
    """The words of the line, each with the numbers behind it, None if it is no line of a program's text."""
    row = []
    for part in line.split(" "):
        number = number_of_word(part)
        if number is None:
            row.append((part, ()))
        elif not row:
            return None
        else:
            word, numbers = row[-1]
            row[-1] = (word, (*numbers, number))
    return row if has_form(row, LINE_FORMS.get(row[0][0], ())) else None


def has_form(row, form):
    """True if the row has just the words of the form, each with as many numbers as it tells."""
    if len(row) != len(form):
        return False
    for (word, numbers), (wanted, many) in zip(row, form):
        if word != wanted or many not in (None, len(numbers)):
            return False
    return True


def program_of_rows(rows):
    """The program of the rows of all lines; it may be none."""
    commands = tuple(command_of_row(row) for row in rows[2:-3])
    return (rows[1][0][1], rows[-3][0][1], commands, rows[-2][0][1])


def command_of_row(row):
    """The command of the row of a line."""
    word, numbers = row[0]
    return (word, *numbers, *[lot for _, lot in row[1:]])
