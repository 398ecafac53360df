"""[21], [22]: which values are names and books, and the names of parts."""

from lookundone.booknames import is_book, is_name, part_names
from tests.common import ALL_SIGNS, ANY_VALUES, StrictCase, wrong_places
from tests.scores import KEPT, some_books

ONE = ("num", 1)
WIRE = ("wire", "a")
SMALL = (
    (
        "part", "p", (("a", 0), ("q", 6)),
        (
            ("gate", "h", (WIRE,)), ("gate", "cx", (WIRE, ("item", "q", ONE))), ("gate", "ccz", (WIRE, WIRE, WIRE)),
            ("turn", ("neg", ONE), WIRE), ("use", "f", (WIRE, ("wire", "q"))), ("times", ONE, (("gate", "x", (WIRE,)),)),
            ("for", "i", ONE, ("var", "j"), ()), ("back", (("back", ()),)),
        ),
    ),
    ("part", "f", (("b", 1),), ()),
)


def with_line(line):
    return (("part", "p", (("a", 0),), (line,)),)


class NamesTest(StrictCase):
    def test_names(self):
        for name in ("a", "z1", "x_", "abcdefghijkl", "a___________", "parts", "h0", "ends", "tos", "cxx", "hx", "q9"):
            self.assertIs(is_name(name), True, name)

    def test_no_names(self):
        for name in KEPT:
            self.assertIs(is_name(name), False, name)
            self.assertIs(is_name(name + "_"), True, name)
        for thing in ("", "A", "aB", "1", "1a", "_", "_a", "a b", " a", "a ", "a\n", "a-b", "a.b", "a[0]", "abcdefghijklm",
                      "a" * 8000, "#", "a#", "+", "a+"):
            self.assertIs(is_name(thing), False, thing)
        for thing in ANY_VALUES:
            self.assertIs(is_name(thing), thing == "a", thing)
        for sign in ALL_SIGNS:
            self.assertIs(is_name(sign), sign.islower() and sign not in KEPT, sign)
            self.assertIs(is_name("a" + sign), sign.islower() or sign.isdigit() or sign == "_", sign)
        for thing in (("a",), ["a"], 1, None, True):
            self.assertIs(is_name(thing), False)


class BooksTest(StrictCase):
    def test_books(self):
        self.assertIs(is_book(SMALL), True)
        for book in some_books(200, 22):
            self.assertIs(is_book(book), True)
        # Nothing but the form is asked: names may be told twice, or be unknown.
        self.assertIs(is_book(SMALL + SMALL), True)
        self.assertIs(is_book((("part", "p", (("a", 0), ("a", 2)), ()),)), True)

    def test_no_books(self):
        for thing in (
            (), [], [SMALL[0]], SMALL[0], "part p a\nend", (("part", "p", (), ()),), (("part", "p", (("a", 7),), ()),),
            (("part", "p", (("a", -1),), ()),), (("part", "p", (("a", True),), ()),), (("part", "p", (("a",),), ()),),
            (("part", "p", ("a",), ()),), (("part", "p", [("a", 0)], ()),), (("part", "p", (("a", 0),), []),),
            (("part", "end", (("a", 0),), ()),), (("part", "p", (("h", 0),), ()),), (("Part", "p", (("a", 0),), ()),),
            (("part", "p", (("a", 0),)),), (("part", "p", (("a", 0),), (), ()),), (("part", "p", (("a", "0"),), ()),),
            (("part", 1, (("a", 0),), ()),), (SMALL[0], None), (SMALL[0], ()),
        ):
            self.assertIs(is_book(thing), False, thing)
        for thing in ANY_VALUES:
            self.assertIs(is_book(thing), False, thing)

    def test_no_lines(self):
        self.assertIs(is_book(with_line(("gate", "h", (WIRE,)))), True)
        for line in (
            (), "h", ["gate", "h", (WIRE,)], ("gate",), ("gate", "h"), ("gate", "h", ()), ("gate", "h", (WIRE, WIRE)),
            ("gate", "h", [WIRE]), ("gate", "h", WIRE), ("gate", "h", (WIRE,), ()), ("gate", "cx", (WIRE,)),
            ("gate", "cz", (WIRE,) * 3), ("gate", "ccz", (WIRE,) * 2), ("gate", "ccz", (WIRE,) * 4), ("gate", "turn", (WIRE,)),
            ("gate", "y", (WIRE,)), ("gate", "use", (WIRE,)), ("gate", None, (WIRE,)), ("gate", ("h",), (WIRE,)),
            ("gate", ["h"], (WIRE,)), ("h", (WIRE,)), ("turn", 1, WIRE), ("turn", ONE, "a"), ("turn", ONE, (WIRE,)),
            ("turn", WIRE, ONE), ("turn", ONE), ("turn", ONE, WIRE, WIRE), ("use", "f", ()), ("use", "to", (WIRE,)),
            ("use", 1, (WIRE,)), ("use", "f", (WIRE, "a")), ("use", "f"), ("times", ONE), ("times", 1, ()),
            ("times", ONE, [],), ("times", ONE, (None,)), ("times", ONE, ONE, ()), ("times", ONE, ("gate", "h", (WIRE,))),
            ("for", "i", ONE, ()), ("for", "i", ONE, ONE), ("for", "for", ONE, ONE, ()), ("for", "i", ONE, 1, ()),
            ("for", "i", 0, ONE, ()), ("for", "i", ONE, ONE, None), ("back",), ("back", (), ()), ("back", [()]),
            ("back", ((),)), ("back", None), ("end",), (None, ONE, ()), (("back",), ()), (True, ()), ("backs", ()),
            ("gate", "h", (("wire", "A"),)), ("gate", "h", (("wire",),)), ("gate", "h", (("wire", "a", ONE),)),
            ("gate", "h", (("item", "a"),)), ("gate", "h", (("item", "a", 1),)), ("gate", "h", (("item", "end", ONE),)),
            ("gate", "h", (("var", "a"),)), ("gate", "h", (["wire", "a"],)), ("gate", "h", ((None, "a"),)),
        ):
            self.assertIs(is_book(with_line(line)), False, line)

    def test_one_wrong_place(self):
        others = (None, True, "", "end", -1, [], 1000000, "wide_name_of13", ("wire", "A"))
        right = [repr(book) for book in self.shorter_books()]
        for wrong in wrong_places(SMALL, others):
            if repr(wrong) not in right:
                self.assertIs(is_book(wrong), False, wrong)

    def shorter_books(self):
        """SMALL without a part, or without one line, wire or w that need not be there."""
        part, other = SMALL
        lines = part[3]
        found = [(part,), (other,)]
        found += [((*part[:3], lines[:k] + lines[k + 1:]), other) for k in range(len(lines))]
        found += [((*part[:2], (wire,), lines), other) for wire in part[2]]
        times, back, use = lines[5], lines[7], lines[4]
        for k, line in ((5, (*times[:2], ())), (7, ("back", ())), (4, (*use[:2], use[2][:1])), (4, (*use[:2], use[2][1:]))):
            found.append(((*part[:3], lines[:k] + (line,) + lines[k + 1:]), other))
        for book in found:
            self.assertIs(is_book(book), True)
        return found

    def test_part_names(self):
        self.same(part_names(SMALL), ("p", "f"))
        self.same(part_names(SMALL + SMALL[:1]), ("p", "f", "p"))
        for book in some_books(20, 5):
            self.same(part_names(book), tuple(part[1] for part in book))
            self.same(part_names(book * 2), part_names(book) * 2)
