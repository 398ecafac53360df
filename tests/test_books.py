"""[21], [24], [28]: the books of scores, their texts, and where a text ceases to be a score."""

import random

from lookundone.bookreader import read_book
from lookundone.booknames import is_book
from lookundone.booktexts import book_text
from lookundone.errors import InvalidText
from tests.common import StrictCase
from tests.scores import bad_place, some_books, strewn, words_of

A = ("wire", "a")
EACH_LINE = (
    ("h a", ("gate", "h", (A,))),
    ("x q[0]", ("gate", "x", (("item", "q", ("num", 0)),))),
    ("z b", ("gate", "z", (("wire", "b"),))),
    ("cz a b", ("gate", "cz", (A, ("wire", "b")))),
    ("cx q[i + 1] a", ("gate", "cx", (("item", "q", ("plus", ("var", "i"), ("num", 1))), A))),
    ("swap b a", ("gate", "swap", (("wire", "b"), A))),
    ("ccz a b c", ("gate", "ccz", (A, ("wire", "b"), ("wire", "c")))),
    ("turn 3 a", ("turn", ("num", 3), A)),
    ("turn -i * 2 q[-1]", ("turn", ("times", ("neg", ("var", "i")), ("num", 2)), ("item", "q", ("neg", ("num", 1))))),
    ("use f a", ("use", "f", (A,))),
    ("use f q q[0] a", ("use", "f", (("wire", "q"), ("item", "q", ("num", 0)), A))),
    ("times 3\n  h a\nend", ("times", ("num", 3), (("gate", "h", (A,)),))),
    ("times n\nend", ("times", ("var", "n"), ())),
    ("for i 0 to 3\n  turn i a\nend", ("for", "i", ("num", 0), ("num", 3), (("turn", ("var", "i"), A),))),
    ("for i -1 to -(2 - i)\nend",
     ("for", "i", ("neg", ("num", 1)), ("neg", ("minus", ("num", 2), ("var", "i"))), ())),
    ("back\n  h a\n  z a\nend", ("back", (("gate", "h", (A,)), ("gate", "z", (A,))))),
)


class BooksTest(StrictCase):
    def told(self, text):
        """The text must be read, or be refused, as the grammar of the document tells."""
        bad = bad_place(text)
        if bad is None:
            self.assertIs(is_book(read_book(text)), True, text)
        else:
            self.raises(InvalidText, {"line": bad[0], "column": bad[1]}, read_book, text)

    def refused(self, text, line, column):
        self.assertEqual(bad_place(text), (line, column), text)
        self.raises(InvalidText, {"line": line, "column": column}, read_book, text)

    def test_each_line(self):
        for text, line in EACH_LINE:
            inner = "\n".join("  " + row for row in text.split("\n"))
            score = f"part p a b\n{inner}\nend"
            book = (("part", "p", (("a", 0), ("b", 0)), (line,)),)
            self.same(read_book(score), book)
            self.same(book_text(book), score)

    def test_each_line_together(self):
        lines = tuple(line for _, line in EACH_LINE)
        rows = [row for text, _ in EACH_LINE for row in text.split("\n")]
        book = (("part", "p", (("a", 0),), lines), ("part", "q", (("q", 6), ("b", 1)), (("times", ("num", 7), lines),)))
        text = book_text(book)
        wanted = ["part p a", *["  " + row for row in rows], "end"]
        wanted += ["part q q[6] b[1]", "  times 7", *["    " + row for row in rows], "  end", "end"]
        self.assertEqual(text.split("\n"), wanted)
        self.same(read_book(text), book)

    def test_blocks_to_eight_deep(self):
        text = ["part p a"]
        for deep in range(8):
            text.append("  " * (deep + 1) + ("back", "times 2", "for i 1 to 2")[deep % 3])
        text.append("  " * 9 + "h a")
        text += ["  " * (deep + 1) + "end" for deep in reversed(range(8))] + ["end"]
        text = "\n".join(text)
        self.same(book_text(read_book(text)), text)
        self.same(book_text(read_book(text.replace("  ", ""))), text)

    def test_wires(self):
        self.same(read_book("part p a q[1] b[006]\nend"), (("part", "p", (("a", 0), ("q", 1), ("b", 6)), ()),))
        self.same(book_text((("part", "p", (("a", 0), ("q", 1), ("b", 6)), ()),)), "part p a q[1] b[6]\nend")

    def test_remarks_blanks_and_noughts(self):
        book = (("part", "p", (("q", 2),), (("turn", ("num", 3), ("item", "q", ("num", 1))),)),)
        for text in (
            "part p q[2]\nturn 3 q[1]\nend", "part p q[2]\nturn 3 q[1]\nend\n", "\n\npart p q[2]\n\n turn 3 q[1]\n\nend\n\n",
            "# a score\npart p q [ 2 ] # two\n#\n   turn   000003   q  [1 ]#x\n  end  # done\n # over",
            "part p q[02]\n turn 03 q[00001]\nend #", "   part p q[2]#\nturn 3 q[1]#\nend#\n#",
        ):
            self.same(read_book(text), book, text)

    def test_there_and_back(self):
        chance = random.Random(24)
        for book in some_books(150, 24):
            text = book_text(book)
            self.same(read_book(text), book)
            self.same(read_book(strewn(text, chance)), book)
            self.assertFalse(text.endswith("\n"))
            self.assertNotIn("\n\n", text)

    def test_ends(self):
        self.refused("", 1, 0)
        self.refused("\n", 2, 0)
        self.refused("\n # part p a\n\n", 4, 0)
        self.refused("part", 0, 4)
        self.refused("part p", 0, 6)
        self.refused("part p  # a", 0, 8)
        self.refused("part p a", 1, 0)
        self.refused("part p a\n", 2, 0)
        self.refused("part p a\n h a\n", 3, 0)
        self.refused("part p a\n back\n end", 3, 0)
        self.refused("part p a\nend\npart", 2, 4)
        self.refused("part p a\nend\npart q b", 3, 0)
        self.refused("part p a\n h", 1, 2)
        self.refused("part p a\n turn 3 #", 1, 8)
        self.refused("part p a\n turn", 1, 5)
        self.refused("part p a\n use f  \nend", 1, 8)
        self.refused("part p a\n use", 1, 4)
        self.refused("part p a\n for i 1\nend", 1, 8)
        self.refused("part p a\n for i 1 to", 1, 11)
        self.refused("part p q[2\nend", 0, 10)
        self.refused("part p q[\n2]\nend", 0, 9)
        self.refused("part p a\n h q[0\nend", 1, 6)

    def test_words(self):
        self.refused("h a", 0, 0)
        self.refused("end", 0, 0)
        self.refused(" part p a\n part", 1, 1)
        self.refused("part p a\nend x", 1, 4)
        self.refused("part p a\nend end", 1, 4)
        self.refused("part p a\nend\nend", 2, 0)
        self.refused("part p a\nend\n h a", 2, 1)
        self.refused("part p a\n h a b\nend", 1, 5)
        self.refused("part p a\n ccz a b\nend", 1, 8)
        self.refused("part p a\n cz a b c\nend", 1, 8)
        self.refused("part p a\n turn 3 4\nend", 1, 8)
        self.refused("part p a\n turn a\nend", 1, 7)
        self.refused("part p a\n turn 3 a b\nend", 1, 10)
        self.refused("part p a\n turn 3 a + b\nend", 1, 10)
        self.refused("part p a\n times 3 h a\nend", 1, 9)
        self.refused("part p a\n back h a\nend", 1, 6)
        self.refused("part p a\n for 3 1 to 2\nend", 1, 5)
        self.refused("part p a\n for i 1 2\nend", 1, 9)
        self.refused("part p a\n for i to 2\nend", 1, 7)
        self.refused("part p a\n use 3 a\nend", 1, 5)
        self.refused("part p a\n use f 3\nend", 1, 7)
        self.refused("part p a\n use f[0] a\nend", 1, 6)
        self.refused("part p a\n q a\nend", 1, 1)
        self.refused("part p a\n h a[]\nend", 1, 5)
        self.refused("part p a\n h (a)\nend", 1, 3)
        self.refused("part p a, b\nend", 0, 7)
        self.refused("part p a\n h\na\nend", 1, 2)

    def test_wrong_names_and_figures(self):
        for name in ("A", "1", "_a", "a.b", "abcdefghijklm", "end", "h", "to", "part", "q!", "a=b", "1a", "ccz", "back"):
            self.refused(f"part {name} a\nend", 0, 5)
            self.refused(f"part p a {name}\nend", 0, 9)
            self.refused(f"part p a\n h {name}\nend", 1, 3)
            self.refused(f"part p a\n use {name} a\nend", 1, 5)
            self.refused(f"part p a\n for {name} 1 to 2\nend", 1, 5)
        for figures in ("0", "7", "10", "000000", "0000001", "1234567", "a", "-", "+", "(", "1a", "]"):
            self.refused(f"part p q[{figures}]\nend", 0, 9)
        self.refused("part p a\n turn 1234567 a\nend", 1, 6)
        self.refused("part p a\n turn 0000001 a\nend", 1, 6)
        self.same(book_text(read_book("part p a\n turn 000001 a\nend")), "part p a\n  turn 1 a\nend")
        self.refused("part p q[2]]\nend", 0, 11)
        self.refused("part p q[2][2]\nend", 0, 11)

    def test_changes_of_words_and_lines(self):
        chance = random.Random(21)
        words = ["part", "end", "a", "h", "7", "[", "]", "(", ")", "+", "-", "*", "to", "Q", "1234567", "q", "\n", "# x", "for"]
        for book in some_books(60, 77):
            rows = book_text(book).split("\n")
            for _ in range(25):
                changed = list(rows)
                k = chance.randrange(len(changed))
                kind = chance.randrange(5)
                if kind == 0:
                    changed[k:k + 1] = []
                elif kind == 1:
                    changed.insert(k, chance.choice(rows))
                elif kind == 2:
                    changed[k:] = []
                else:
                    parts = [word for word, _ in words_of(changed[k])]
                    j = chance.randrange(len(parts) + 1)
                    parts[j:j + chance.randrange(2)] = [chance.choice(words)] * chance.randrange(2)
                    changed[k] = " ".join(parts)
                self.told("\n".join(changed))

    def test_each_cut(self):
        text = "part p a q[2] # x\n  for i 0 to 3\n    cx q[i] a\n    turn -(2 * i) a\n  end\nend\n"
        for k in range(len(text) + 1):
            self.told(text[:k])
            self.told(text[:k] + text[k + 1:])
            for sign in "[]()+-*#% \nA_a7":
                self.told(text[:k] + sign + text[k:])
