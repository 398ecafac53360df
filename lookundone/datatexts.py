"""The one text of a thing, and the thing of such a text."""

from lookundone.errors import InvalidText

DEEPEST = 30
FIGURES = "0123456789"
WORDS = (("True", True), ("False", False), ("None", None))


def data_text(thing):
    """The text of a thing."""
    if isinstance(thing, tuple):
        parts = ", ".join(data_text(part) for part in thing)
        return f"({parts},)" if len(thing) == 1 else f"({parts})"
    if isinstance(thing, str):
        return f'"{thing}"'
    return str(thing)


def read_data(text):
    """The thing that has just this text."""
    thing, at = taken_thing(text, 0, 0)
    if at < len(text):
        raise InvalidText(0, at)
    return thing


def sign_at(text, at):
    """The sign at this place, an empty string behind the end."""
    return text[at:at + 1]


def is_figure(sign):
    """True if sign, as sign_at tells it, is a figure."""
    return sign != "" and sign in FIGURES


def taken_thing(text, at, deep):
    """The pair of the thing that begins at this place, within so many brackets, and the place behind it."""
    sign = sign_at(text, at)
    if sign == "(" and deep < DEEPEST:
        return taken_tuple(text, at + 1, deep + 1)
    if sign == '"':
        return taken_string(text, at + 1)
    if sign == "-" or is_figure(sign):
        return taken_integer(text, at)
    for word, thing in WORDS:
        if sign == word[0]:
            return thing, place_behind(text, at, word)
    raise InvalidText(0, at)


def place_behind(text, at, word):
    """The place behind the word that must stand at this place."""
    for sign in word:
        if sign_at(text, at) != sign:
            raise InvalidText(0, at)
        at += 1
    return at


def taken_string(text, start):
    """The pair of the string that begins at start, and the place behind the sign that closes it."""
    at = start
    while sign_at(text, at) != '"':
        if sign_at(text, at) in ("", "\n"):
            raise InvalidText(0, at)
        at += 1
    return text[start:at], at + 1


def taken_integer(text, start):
    """The pair of the integer that begins at start, and the place behind it."""
    at = start
    if sign_at(text, at) == "0":
        return 0, at + 1
    if sign_at(text, at) == "-":
        at += 1
        # A minus has a figure behind it, and none stands ahead of 0.
        if not is_figure(sign_at(text, at)) or sign_at(text, at) == "0":
            raise InvalidText(0, at)
    while is_figure(sign_at(text, at)):
        at += 1
    return int(text[start:at]), at


def taken_tuple(text, at, deep):
    """The pair of the tuple whose first bracket stands ahead of this place, and the place behind it."""
    if sign_at(text, at) == ")":
        return (), at + 1
    things = []
    while True:
        thing, at = taken_thing(text, at, deep)
        things.append(thing)
        if sign_at(text, at) == ")" and len(things) > 1:
            return tuple(things), at + 1
        at = place_behind(text, at, ",")
        if sign_at(text, at) == ")" and len(things) == 1:
            return tuple(things), at + 1
        at = place_behind(text, at, " ")
