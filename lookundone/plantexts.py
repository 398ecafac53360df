"""The one text of a plan, and the plan of such a text."""

from lookundone.errors import InvalidText
from lookundone.kinds import is_ascending, is_dots_of, is_lot, is_turns
from lookundone.webkinds import is_two_of

FIGURES = "0123456789"
# No number in a plan's text is longer: all are dots or turns.
MOST_FIGURES = 4
LINE_WORDS = ("web", "dots", "ties", "ins", "outs", "angles", "end")


def plan_text(plan):
    """The seven lines of the plan."""
    (dots, ties, ins, outs), angles = plan
    tie_words = [f"{one}-{other}" for one, other in ties]
    return "\n".join([
        "web",
        row_text("dots", dots),
        row_text("ties", tie_words),
        row_text("ins", ins),
        row_text("outs", outs),
        row_text("angles", angles),
        "end",
    ])


def row_text(word, values):
    """A word, and the values behind it."""
    parts = [str(part) for part in values]
    return " ".join([word, *parts])


def read_plan(text):
    """The plan that has just this text."""
    lines = text.split("\n")
    rows = []
    for k, line in enumerate(lines):
        row = read_row(k, line, rows)
        if row is None:
            raise InvalidText(k, 0)
        rows.append(row)
    if len(rows) < len(LINE_WORDS):
        raise InvalidText(len(rows), 0)
    return (tuple(rows[1:5]), rows[5])


def read_row(k, line, rows):
    """What line k tells behind the rows ahead of it, None if it can't stand there."""
    words = line.split(" ")
    if k >= len(LINE_WORDS) or words[0] != LINE_WORDS[k]:
        return None
    if k == 0 or k == 6:
        return () if len(words) == 1 else None
    if k == 2:
        return read_ties(words[1:], rows[1])
    values = tuple(number_of_word(part) for part in words[1:])
    if k == 1:
        return values if is_lot(values) else None
    if k == 5:
        return values if is_turns(len(rows[1]), values) else None
    return values if is_dots_of(rows[1], values) else None


def read_ties(words, dots):
    """The ties of these words, None if no web with these dots has them."""
    ties = tuple(tuple(number_of_word(part) for part in word.split("-")) for word in words)
    for tie in ties:
        if not (is_two_of(dots, tie) and tie[0] < tie[1]):
            return None
    return ties if is_ascending(ties) else None


def number_of_word(word):
    """The number whose figures are the word, None if there is none, or if it is too great for a plan."""
    if not 1 <= len(word) <= MOST_FIGURES or any(sign not in FIGURES for sign in word):
        return None
    if word[0] == "0" and word != "0":
        return None
    return int(word)
