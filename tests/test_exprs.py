"""[21], [23], [28]: exprs, their texts, and what they come to."""

import itertools
import random

from lookundone.errors import BadScore, InvalidText
from lookundone.exprs import expr_text, is_expr, read_expr, worth_of
from tests.common import ALL_SIGNS, ANY_VALUES, StrictCase, nested, wrong_places
from tests.scores import KEPT, bad_column, full_text, some_expr

A, B, C = ("var", "a"), ("var", "b"), ("var", "c")


def some_exprs(many, seed):
    chance = random.Random(seed)
    return [some_expr(chance) for _ in range(many)]


class ReadExprTest(StrictCase):
    def told(self, text, column):
        if column is None:
            self.assertIs(is_expr(read_expr(text)), True)
        else:
            self.raises(InvalidText, {"line": 0, "column": column}, read_expr, text)

    def test_exprs(self):
        for text, expr in (
            ("a", A), ("0", ("num", 0)), ("000007", ("num", 7)), ("999999", ("num", 999999)), ("(a)", A), ("((a))", A),
            ("-a", ("neg", A)), ("--a", ("neg", ("neg", A))), ("-1", ("neg", ("num", 1))),
            ("a+b", ("plus", A, B)), ("a-b", ("minus", A, B)), ("a*b", ("times", A, B)),
            ("a-b-c", ("minus", ("minus", A, B), C)), ("a-(b-c)", ("minus", A, ("minus", B, C))),
            ("a+b-c", ("minus", ("plus", A, B), C)), ("a-b+c", ("plus", ("minus", A, B), C)),
            ("a*b*c", ("times", ("times", A, B), C)), ("a*(b*c)", ("times", A, ("times", B, C))),
            ("a+b*c", ("plus", A, ("times", B, C))), ("a*b+c", ("plus", ("times", A, B), C)),
            ("(a+b)*c", ("times", ("plus", A, B), C)), ("-a*b", ("times", ("neg", A), B)),
            ("-(a*b)", ("neg", ("times", A, B))), ("a*-b", ("times", A, ("neg", B))),
            ("a--b", ("minus", A, ("neg", B))), ("-a-b", ("minus", ("neg", A), B)),
            ("  a  # + b", A), ("a#", A), (" ( a ) ", A),
        ):
            self.same(read_expr(text), expr, text)

    def test_the_first_bad_word(self):
        for text, column in (
            ("", 0), ("   ", 3), ("# a", 0), ("  # a", 2), ("a b", 2), ("a  1", 3), ("a +", 3), ("a + # b", 4), ("(", 1),
            (")", 0), ("()", 1), ("(a", 2), ("(a))", 3), ("a (b)", 2), ("+ a", 0), ("* a", 0), ("a * * b", 4), ("a + + b", 4),
            ("a - - b", None), ("-", 1), ("A", 0), ("a + B", 4), ("1a", 0), ("_a", 0), ("a.b", 0), ("1234567", 0),
            ("0000001", 0), ("abcdefghijklm", 0), ("abcdefghijkl", None), ("end", 0), ("a + to", 4), ("h", 0), ("h1", None),
            ("a[0]", 1), ("[", 0), ("a ]", 2), ("a,b", 0), ("3 * (4 - x2) y", 13), ("3 * (4 - x)", 9), ("1,5", 0),
        ):
            self.told(text, column)
            self.assertEqual(bad_column(text), column, text)

    def test_every_change(self):
        words = ["a", "7", "+", "-", "*", "(", ")", "[", "]", "h", "1234567", "Q", "# b", "to"]
        for text in ("a - ( - b ) * ( c + 2 )", "( ( 1 ) )", "- a * b - 3"):
            parts = text.split()
            changed = []
            for k in range(len(parts) + 1):
                changed.append(parts[:k])
                changed.append(parts[:k] + parts[k + 1:])
                for word in words:
                    changed.append(parts[:k] + [word] + parts[k:])
                    changed.append(parts[:k] + [word] + parts[k + 1:])
                    changed.append(parts[:k] + [word] + parts[k + 1:][::-1])
            for other in changed:
                for between in (" ", "  "):
                    self.told(between.join(other), bad_column(between.join(other)))


    def test_every_sign(self):
        for sign in ALL_SIGNS:
            for text in (sign, "a" + sign, "1" + sign, sign + "1", f"a {sign} b"):
                self.told(text, bad_column(text))


class ExprTextTest(StrictCase):
    def test_texts(self):
        for expr, text in (
            (("num", 0), "0"), (A, "a"), (("neg", A), "-a"), (("neg", ("neg", A)), "--a"), (("neg", ("num", 5)), "-5"),
            (("plus", A, B), "a + b"), (("minus", A, B), "a - b"), (("times", A, B), "a * b"),
            (("minus", ("minus", A, B), C), "a - b - c"), (("minus", A, ("minus", B, C)), "a - (b - c)"),
            (("plus", A, ("plus", B, C)), "a + (b + c)"), (("plus", A, ("minus", B, C)), "a + (b - c)"),
            (("minus", A, ("plus", B, C)), "a - (b + c)"), (("minus", ("plus", A, B), C), "a + b - c"),
            (("times", ("times", A, B), C), "a * b * c"), (("times", A, ("times", B, C)), "a * (b * c)"),
            (("times", ("plus", A, B), C), "(a + b) * c"), (("times", A, ("minus", B, C)), "a * (b - c)"),
            (("plus", ("times", A, B), C), "a * b + c"), (("minus", A, ("times", B, C)), "a - b * c"),
            (("neg", ("times", A, B)), "-(a * b)"), (("neg", ("plus", A, B)), "-(a + b)"),
            (("neg", ("minus", A, B)), "-(a - b)"), (("times", ("neg", A), B), "-a * b"),
            (("times", A, ("neg", B)), "a * -b"), (("minus", A, ("neg", B)), "a - -b"),
            (("neg", ("neg", ("plus", A, B))), "--(a + b)"), (("plus", ("neg", A), ("neg", B)), "-a + -b"),
        ):
            self.same(expr_text(expr), text)
            self.same(read_expr(text), expr)

    def test_there_and_back(self):
        for expr in some_exprs(800, 23):
            self.same(read_expr(expr_text(expr)), expr)
            self.same(read_expr(full_text(expr)), expr)
            self.same(expr_text(read_expr(full_text(expr))), expr_text(expr))

    def test_no_needless_brackets(self):
        for expr in some_exprs(300, 24):
            text = expr_text(expr)
            for j, k in itertools.combinations(range(len(text)), 2):
                if text[j] == "(" and text[k] == ")":
                    bare = text[:j] + text[j + 1:k] + text[k + 1:]
                    if bad_column(bare) is None:
                        self.assertNotEqual(read_expr(bare), expr, text)


class IsExprTest(StrictCase):
    def test_exprs(self):
        for expr in some_exprs(300, 25):
            self.assertIs(is_expr(expr), True)
        self.assertIs(is_expr(("num", 999999)), True)
        self.assertIs(is_expr(("var", "abcdefghijkl")), True)
        deep = A
        for _ in range(28):
            deep = ("neg", deep)
        self.assertIs(is_expr(deep), True)

    def test_no_exprs(self):
        for thing in (
            ("num", -1), ("num", 1000000), ("num", True), ("num", "1"), ("num", None), ("num",), ("num", 1, 2), ["num", 1],
            ("var", ""), ("var", "A"), ("var", "1"), ("var", 1), ("var", "abcdefghijklm"), ("var", "_a"), ("var", "a-b"),
            ("var", ["a"]), ("num", A), ("var", A), ("neg", 1), ("neg", A, B), ("neg",), ("plus", A), ("plus", A, B, C),
            ("plus", A, 1), ("plus", None, B), ("times", [A], B), ("Plus", A, B), (("plus",), A, B), (["plus"], A, B),
            ([], A), (None, A, B), (1, A), ("turn", A), ("and", A, B), (True, A, B), "a", 1, (), [], None, True,
        ):
            self.assertIs(is_expr(thing), False, thing)
        for word in KEPT:
            self.assertIs(is_expr(("var", word)), False, word)

    def test_one_wrong_place(self):
        others = (None, True, "", "end", -1, (), [], ("num", True), "plus!")
        for expr in some_exprs(40, 26):
            for wrong in wrong_places(expr, others):
                self.assertIs(is_expr(wrong), False, wrong)

    def test_any_values(self):
        for thing in ANY_VALUES:
            self.assertIs(is_expr(thing), False, thing)
            self.assertIs(is_expr(("neg", thing)), False)
        self.assertIs(is_expr(nested(30)), False)


class WorthTest(StrictCase):
    def is_bad(self, word, expr, names):
        self.raises(BadScore, {"word": word, "line": -1}, worth_of, expr, names)

    def test_worths(self):
        names = (("a", 7), ("b", -3), ("c", 10 ** 6))
        for text in ("a", "b", "c", "-c", "a+b", "a-b", "a*b", "a-b-a", "a-(b-a)", "-a*b", "2*3+4*5", "2*(3+4)*5", "--7",
                     "0", "c-c", "c-1", "0-c", "1000*1000", "-(1000*1000)", "999999+1", "a*-b"):
            self.same(worth_of(read_expr(text), names), eval(text, {"a": 7, "b": -3, "c": 10 ** 6}), text)
        self.same(worth_of(("num", 5), ()), 5)

    def test_the_last_pair_of_a_name_counts(self):
        self.same(worth_of(A, (("a", 1), ("b", 2), ("a", 3))), 3)
        self.same(worth_of(A, (("a", 10 ** 30), ("a", 3))), 3)
        self.is_bad("great", A, (("a", 3), ("a", 10 ** 30)))
        self.same(worth_of(A, (("b", 10 ** 30), ("a", 3))), 3)

    def test_names(self):
        self.is_bad("name", A, ())
        self.is_bad("name", A, (("aa", 1), ("b", 2)))
        self.is_bad("name", ("times", ("num", 0), A), (("b", 2),))

    def test_great(self):
        bound = 10 ** 6
        for worth in (bound, -bound, bound - 1, 1 - bound, 0):
            self.same(worth_of(A, (("a", worth),)), worth)
            self.same(worth_of(("neg", A), (("a", worth),)), -worth)
        for worth in (bound + 1, -bound - 1, 10 ** 59, -(10 ** 59)):
            self.is_bad("great", A, (("a", worth),))
        names = (("a", bound), ("b", -bound))
        for text in ("a+1", "b-1", "a-b", "b+b", "a*2", "2*b", "a*-2", "-(b-1)", "(a+1)-1", "0*(a+1)", "1001*1000", "a*b"):
            self.is_bad("great", read_expr(text), names)
        for text in ("a+0", "b-0", "a+b", "a*1", "b*-1", "a-1+1", "1000*1000", "(a-1)+1", "1-a-1"):
            self.same(worth_of(read_expr(text), names), eval(text, {"a": bound, "b": -bound}))

    def test_which_comes_first(self):
        names = (("a", 10 ** 6), ("g", 10 ** 6 + 1))
        for text, word in (
            ("g + n", "great"), ("n + g", "name"), ("(a + 1) + n", "great"), ("n + (a + 1)", "name"),
            ("(a + a) * n", "great"), ("a + (a + n)", "name"), ("a * (a * 2 - n)", "great"), ("-n - g", "name"),
            ("-g - n", "great"), ("a + 1 + n", "great"), ("a + n + 1", "name"), ("(a + 1) * (n - 1)", "great"),
        ):
            self.is_bad(word, read_expr(text), names)
