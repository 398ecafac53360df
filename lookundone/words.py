"""The words of scores: which are names and figures, and a reader that goes through them one by one."""

from lookundone.errors import InvalidText

SMALL_LETTERS = "abcdefghijklmnopqrstuvwxyz"
FIGURES = "0123456789"
NAME_SIGNS = "abcdefghijklmnopqrstuvwxyz0123456789_"
SINGLE_SIGNS = "[]()+-*"
LONGEST_NAME = 12
MOST_FIGURES = 6
GREATEST_FIGURES = 999999
GREATEST_BUS = 6
KEPT_WORDS = (
    "part", "end", "h", "x", "z", "turn", "cz", "cx", "swap", "ccz", "use", "times", "for", "to", "back",
)
# How many wires each gate has in a score.
GATE_WIRES = {"h": 1, "x": 1, "z": 1, "cz": 2, "cx": 2, "swap": 2, "ccz": 3}
# What stands in the place of a word at the end of a line, and at that of the text.
LINE_END = "\n"
TEXT_END = ""


def is_name_word(word):
    """True if word, a string, is a name."""
    if word == "" or len(word) > LONGEST_NAME or word in KEPT_WORDS:
        return False
    return word[0] in SMALL_LETTERS and all(sign in NAME_SIGNS for sign in word)


def is_figures(word):
    """True if word, a string, is figures."""
    return 1 <= len(word) <= MOST_FIGURES and all(sign in FIGURES for sign in word)


def told_part(line):
    """What is not left out of a line."""
    return line.partition("#")[0]


def words_in(line):
    """The pairs (word, column) of what is not left out of a line."""
    words = []
    start = 0
    # The blank at the end closes a last word.
    for column, sign in enumerate(line + " "):
        if sign == " " or sign in SINGLE_SIGNS:
            if start < column:
                words.append((line[start:column], start))
            if sign != " ":
                words.append((sign, column))
            start = column + 1
    return words


class Reader:
    """Goes through the words and ends of a text; it stands at one of them, at first at the first one."""

    def __init__(self, words):
        self.words = words
        self.at = 0

    def here(self):
        """The word at which it stands."""
        return self.words[self.at][0]

    def refuse(self):
        """Say that nothing can go on with the word at which it stands."""
        _, line, column = self.words[self.at]
        raise InvalidText(line, column)

    def take(self):
        """The word at which it stands, which it passes."""
        word = self.here()
        self.at += 1
        return word

    def expect(self, word):
        """Pass this word, which must stand here."""
        if self.here() != word:
            self.refuse()
        self.at += 1

    def take_name(self):
        """The name that must stand here, which it passes."""
        if not is_name_word(self.here()):
            self.refuse()
        return self.take()

    def take_width(self):
        """The width of a bus, which must stand here, and which it passes."""
        if not is_figures(self.here()) or not 1 <= int(self.here()) <= GREATEST_BUS:
            self.refuse()
        return int(self.take())
