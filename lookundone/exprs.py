"""Exprs: their texts, which values are exprs, and what they come to."""

from lookundone.errors import BadScore, need
from lookundone.kinds import is_integer, is_number_below, is_tuple_of
from lookundone.words import GREATEST_FIGURES, TEXT_END, Reader, is_figures, is_name_word, told_part, words_in

GREATEST_WORTH = 1000000
SUM_KINDS = {"+": "plus", "-": "minus"}
JOINS = {"plus": " + ", "minus": " - ", "times": " * "}


def read_expr(text):
    """The expr that a text of one line tells."""
    told = told_part(text)
    words = [(word, 0, column) for word, column in words_in(told)]
    reader = Reader([*words, (TEXT_END, 0, len(told))])
    expr = take_expr(reader)
    reader.expect(TEXT_END)
    return expr


def take_expr(reader):
    """The expr that must stand at the reader, which passes it."""
    expr = take_term(reader)
    while reader.here() in SUM_KINDS:
        kind = SUM_KINDS[reader.take()]
        expr = (kind, expr, take_term(reader))
    return expr


def take_term(reader):
    """The term that must stand at the reader, which passes it."""
    term = take_atom(reader)
    while reader.here() == "*":
        reader.take()
        term = ("times", term, take_atom(reader))
    return term


def take_atom(reader):
    """The atom that must stand at the reader, which passes it."""
    word = reader.here()
    if is_figures(word):
        return ("num", int(reader.take()))
    if word == "-":
        reader.take()
        return ("neg", take_atom(reader))
    if word == "(":
        reader.take()
        expr = take_expr(reader)
        reader.expect(")")
        return expr
    return ("var", reader.take_name())


def is_sum(expr):
    """True if expr is a sum or a difference."""
    return expr[0] in ("plus", "minus")


def bracketed(expr, with_brackets):
    """The text of expr, in brackets if it must have them."""
    return f"({expr_text(expr)})" if with_brackets else expr_text(expr)


def expr_text(expr):
    """A text of expr, with brackets just where another expr would be read without them."""
    kind = expr[0]
    if kind in ("num", "var"):
        return str(expr[1])
    if kind == "neg":
        return "-" + bracketed(expr[1], expr[1][0] in JOINS)
    _, left, right = expr
    is_product = kind == "times"
    left_text = bracketed(left, is_product and is_sum(left))
    right_text = bracketed(right, is_sum(right) or (is_product and right[0] == "times"))
    return left_text + JOINS[kind] + right_text


def is_expr(thing):
    """True if thing is the expr of some text."""
    if is_tuple_of(2, thing):
        kind, part = thing
        if kind == "num":
            return is_number_below(GREATEST_FIGURES + 1, part)
        if kind == "var":
            return isinstance(part, str) and is_name_word(part)
        return kind == "neg" and is_expr(part)
    if is_tuple_of(3, thing):
        kind, left, right = thing
        return isinstance(kind, str) and kind in JOINS and is_expr(left) and is_expr(right)
    return False


def is_worth(thing):
    """True if thing is a pair of a name and an integer."""
    return is_tuple_of(2, thing) and isinstance(thing[0], str) and is_name_word(thing[0]) and is_integer(thing[1])


def worth_of(expr, names):
    """The integer that expr comes to; names tells what the names in it are worth."""
    need(isinstance(names, tuple) and all(is_worth(pair) for pair in names), "names")
    # The last pair of a name counts, and a dict keeps the last one.
    return bounded_worth(expr, dict(names))


def bounded_worth(expr, worths):
    """The integer that expr comes to by a dict of names, unless it is too great."""
    kind = expr[0]
    if kind == "num":
        worth = expr[1]
    elif kind == "var":
        if expr[1] not in worths:
            raise BadScore("name", -1)
        worth = worths[expr[1]]
    elif kind == "neg":
        worth = -bounded_worth(expr[1], worths)
    else:
        left = bounded_worth(expr[1], worths)
        worth = joined_worth(kind, left, bounded_worth(expr[2], worths))
    if not -GREATEST_WORTH <= worth <= GREATEST_WORTH:
        raise BadScore("great", -1)
    return worth


def joined_worth(kind, left, right):
    """What two parts come to together."""
    if kind == "plus":
        return left + right
    return left - right if kind == "minus" else left * right
