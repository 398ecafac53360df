"""What the tests of scores share: the grammar of the document, random books, and another writer of texts."""

import random
import re

from tests.oracles import Recogniser

KEPT = "part end h x z turn cz cx swap ccz use times for to back".split()

# The grammar as the document tells it: "/" is the end of a line, a string with ".." stands for once or more often.
RULES_TEXT = """
score = parts the-end
parts = part
parts = part parts
part = "part" name wires / lines "end" /
wires = wire
wires = wire wires
wire = name
wire = name "[" width "]"
lines =
lines = line lines
line = "h" w /
line = "x" w /
line = "z" w /
line = "cz" w w /
line = "cx" w w /
line = "swap" w w /
line = "ccz" w w w /
line = "turn" expr w /
line = "use" name ws /
line = "times" expr / lines "end" /
line = "for" name expr "to" expr / lines "end" /
line = "back" / lines "end" /
ws = w
ws = w ws
w = name
w = name "[" expr "]"
expr = term
expr = expr "+" term
expr = expr "-" term
term = atom
term = term "*" atom
atom = figures
atom = name
atom = "(" expr ")"
atom = "-" atom
alone = expr the-end
"""


def rules():
    found = []
    for line in RULES_TEXT.strip().split("\n"):
        name, _, parts = line.partition(" =")
        found.append((name, parts.split()))
    return found


def fits(part, word):
    if part.startswith('"'):
        return word == part[1:-1]
    if part == "/":
        return word == "\n"
    if part == "the-end":
        return word == ""
    if part == "name":
        return re.fullmatch("[a-z][a-z0-9_]{0,11}", word) is not None and word not in KEPT
    if part == "figures":
        return re.fullmatch("[0-9]{1,6}", word) is not None
    return re.fullmatch("0{0,5}[1-6]", word) is not None and len(word) <= 6


SCORES = Recogniser(rules(), "score", fits)
ALONE = Recogniser(rules(), "alone", fits)


def words_of(line):
    """The pairs (word, column) of a line, its remark left out."""
    return [(found.group(), found.start()) for found in re.finditer(r"[][()+*-]|[^][()+* -]+", line)]


def tokens_of(text):
    """The triples (word, line, column) of a score's words and ends."""
    tokens = []
    lines = text.split("\n")
    for k, line in enumerate(lines):
        told = line.split("#")[0]
        words = words_of(told)
        tokens += [(word, k, column) for word, column in words]
        if words:
            tokens.append(("\n", k, len(told)))
    return tokens + [("", len(lines), 0)]


def bad_place(text):
    """The pair (line, column) of the first word or end that no score has there, None if text is a score."""
    tokens = tokens_of(text)
    k = SCORES.first_bad([word for word, _, _ in tokens])
    return None if k is None else tokens[k][1:]


def bad_column(text):
    """The column of the first word, or of the end, that no expr has there, None if text is an expr."""
    told = text.split("#")[0]
    tokens = [*words_of(told), ("", len(told))]
    k = ALONE.first_bad([word for word, _ in tokens])
    return None if k is None else tokens[k][1]


NAMES = ("a", "b", "q", "zz", "a_1", "part_", "h2", "abcdefghijkl", "x_", "turns", "f000000000_0")


def some_expr(chance, deep=0):
    kind = chance.randrange(6 if deep < 3 else 2)
    if kind == 0:
        return ("num", chance.choice((0, 1, 7, 64, 999999, chance.randrange(100))))
    if kind == 1:
        return ("var", chance.choice(NAMES))
    if kind == 2:
        return ("neg", some_expr(chance, deep + 1))
    return (("plus", "minus", "times")[kind - 3], some_expr(chance, deep + 1), some_expr(chance, deep + 1))


def some_w(chance):
    if chance.randrange(2):
        return ("wire", chance.choice(NAMES))
    return ("item", chance.choice(NAMES), some_expr(chance, 2))


def some_line(chance, deep=0):
    kind = chance.randrange(6 if deep < 3 else 3)
    if kind == 0:
        word, many = chance.choice((("h", 1), ("x", 1), ("z", 1), ("cz", 2), ("cx", 2), ("swap", 2), ("ccz", 3)))
        return ("gate", word, tuple(some_w(chance) for _ in range(many)))
    if kind == 1:
        return ("turn", some_expr(chance), some_w(chance))
    if kind == 2:
        return ("use", chance.choice(NAMES), tuple(some_w(chance) for _ in range(chance.randint(1, 3))))
    if kind == 3:
        return ("times", some_expr(chance), some_lines(chance, deep + 1))
    if kind == 4:
        return ("for", chance.choice(NAMES), some_expr(chance), some_expr(chance), some_lines(chance, deep + 1))
    return ("back", some_lines(chance, deep + 1))


def some_lines(chance, deep=0):
    return tuple(some_line(chance, deep) for _ in range(chance.randrange(4)))


def some_book(chance):
    parts = []
    for _ in range(chance.randint(1, 3)):
        wires = tuple((chance.choice(NAMES), chance.randrange(7)) for _ in range(chance.randint(1, 3)))
        parts.append(("part", chance.choice(NAMES), wires, some_lines(chance)))
    return tuple(parts)


def some_books(many, seed):
    chance = random.Random(seed)
    return [some_book(chance) for _ in range(many)]


def full_text(expr):
    """A text of expr with brackets round everything."""
    if expr[0] in ("num", "var"):
        return str(expr[1])
    if expr[0] == "neg":
        return f"-({full_text(expr[1])})"
    sign = {"plus": "+", "minus": "-", "times": "*"}[expr[0]]
    return f"({full_text(expr[1])}){sign}({full_text(expr[2])})"


def strewn(text, chance):
    """The score with blanks, remarks, lines without words and noughts ahead of figures strewn in."""
    lines = []
    for line in text.split("\n"):
        for _ in range(chance.randrange(2)):
            lines.append(chance.choice(("", "   ", "# part", "  #end")))
        words = []
        for word, _ in words_of(line):
            if re.fullmatch("[0-9]+", word):
                word = word.zfill(chance.randint(len(word), 6))
            words.append(word)
        joined = ""
        for word in words:
            apart = joined[-1:] in "[]()+-*" or word in "[]()+-*"
            joined += " " * chance.randrange(0 if apart else 1, 3) + word
        lines.append(joined + " " * chance.randrange(3) + chance.choice(("", "", "# end", "#")))
    return "\n".join(lines) + "\n" * chance.randrange(2)
