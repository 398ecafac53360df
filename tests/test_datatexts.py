"""[19], [20]: texts of things, and where a text ceases to be the beginning of one."""

import random

from lookundone.datatexts import data_text, read_data
from lookundone.errors import InvalidText
from tests.common import ALL_SIGNS, StrictCase, nested
from tests.oracles import Recogniser

SIGNS = "0123456789-(), \"\nTrueFalsNoxa"


def thing_rules():
    """The rules of the texts of things that are so many brackets deep, each name with its depth."""
    rules = []
    for deep in range(31):
        name = ("thing", deep)
        for word in ("True", "False", "None"):
            rules.append((name, word))
        rules += [(name, ["0"]), (name, [("number",)]), (name, ["-", ("number",)]), (name, ['"', ("signs",), '"'])]
        if deep < 30:
            inner = ("thing", deep + 1)
            rest = ("rest", deep + 1)
            rules += [
                (name, "()"), (name, ["(", inner, ",", ")"]), (name, ["(", inner, ",", " ", inner, rest, ")"]),
                (rest, []), (rest, [",", " ", inner, rest]),
            ]
    rules += [(("number",), ["from 1", ("figures",)]), (("figures",), []), (("figures",), ["from 0", ("figures",)])]
    rules += [(("signs",), []), (("signs",), ["in a string", ("signs",)])]
    return rules + [("text", [("thing", 0), "the end"])]


def fits(part, sign):
    if part == "the end" or sign is None:
        return part == "the end" and sign is None
    if part == "in a string":
        return sign not in '"\n'
    if part.startswith("from"):
        return sign in "0123456789"[int(part[5:]):]
    return part == sign


RECOGNISER = Recogniser(thing_rules(), "text", fits)


def column_of_text(text):
    """The length of the longest beginning with which some thing's text begins, None if text is one."""
    return RECOGNISER.first_bad([*text, None])


def some_thing(chance, deep=0):
    kind = chance.randrange(8 if deep < 4 else 5)
    if kind == 0:
        return chance.choice((True, False, None))
    if kind == 1:
        return chance.choice((0, 1, -1, 10, -70, 10 ** 60 - 1, 1 - 10 ** 60))
    if kind in (2, 3):
        return chance.randint(-99, 99)
    if kind == 4:
        return "".join(chance.choice(" aT(),0-#~!'_") for _ in range(chance.randrange(4)))
    return tuple(some_thing(chance, deep + 1) for _ in range(chance.choice((0, 1, 1, 2, 3))))


class DataTextTest(StrictCase):
    def told(self, text, column):
        """The text must be refused at this column, or, without one, be the text of a thing."""
        if column is None:
            self.same(data_text(read_data(text)), text)
        else:
            self.raises(InvalidText, {"line": 0, "column": column}, read_data, text)

    def test_texts(self):
        for thing, text in (
            (0, "0"), (-1, "-1"), (10 ** 59, "1" + "0" * 59), (True, "True"), (False, "False"), (None, "None"),
            ("", '""'), ("a b", '"a b"'), ("()", '"()"'), ((), "()"), ((0,), "(0,)"), ((0, 1), "(0, 1)"),
            (((),), "((),)"), ((((),),), "(((),),)"), ((True, ("x", -5), None), '(True, ("x", -5), None)'),
            (("'",), '("\'",)'), (nested(30), "(" * 30 + ")" + ",)" * 29),
        ):
            self.same(data_text(thing), text)
            self.same(read_data(text), thing)

    def test_there_and_back(self):
        chance = random.Random(19)
        for _ in range(600):
            thing = some_thing(chance)
            self.same(read_data(data_text(thing)), thing)
            self.told(data_text(thing), column_of_text(data_text(thing)))

    def test_columns_that_the_document_names(self):
        for text, column in (("", 0), ("07", 1), ("-0", 1), ("(1", 2), ("(1)", 2), ("(1, 2,)", 6), ("(" * 31, 30)):
            self.told(text, column)

    def test_columns(self):
        for text, column in (
            ("-", 1), ("--1", 1), ("-a", 1), ("-07", 1), ("00", 1), ("0a", 1), ("1a", 1), ("12 ", 2), (" 1", 0),
            ("+1", 0), ("1.0", 1), ("Tru", 3), ("Trux", 3), ("T", 1), ("true", 0), ("Truee", 4), ("Fals ", 4), ("No", 2),
            ("none", 0), ("NoneNone", 4), ('"', 1), ('"a', 2), ('"a\n"', 2), ('""a', 2), ('"a"b"', 3), ("'a'", 0),
            ("(", 1), (")", 0), ("()", None), ("( )", 1), ("(,)", 1), ("(1,", 3), ("(1, ", 4), ("(1, )", 4), ("(1,2)", 3),
            ("(1 ,)", 2), ("(1,  2)", 4), ("(1, 2", 5), ("(1, 2)", None), ("(1, 2))", 6), ("(1, 2, )", 7), ("(1,))", 4),
            ("((),)", None), ("(())", 3), ("((), ())", None), ("((), (),)", 8), ("(1,)\n", 4), ("\n1", 0), ("1\n2", 1),
            ("(1,\n2)", 3), ("[1]", 0), ("()()", 2), ("(True, False)", None), ("(True, Falsy)", 11), ("(-, 1)", 2),
            ("(-0, 1)", 2), ("(01, 1)", 2), ('("a, 1)', 7), ("{}", 0), ("0", None), ("-10", None), ("9" * 60, None),
        ):
            self.told(text, column)
            self.assertEqual(column_of_text(text), column, text)

    def test_thirty_deep(self):
        for deep in range(1, 31):
            self.told("(" * deep, deep)
            self.told("(" * deep + ")" + ",)" * (deep - 1), None)
            self.told("(" * deep + ")" + ",)" * deep, 3 * deep - 1 if deep > 1 else 2)
        self.told("(" * 40, 30)
        self.told("(" * 30 + ")" + ",)" * 28, 30 + 1 + 56)
        self.told("(" * 30 + "1,)" + ",)" * 29, None)
        self.told("(" * 30 + "1, (", 34 - 1)
        self.told("(" * 29 + "1, (), ()" + ")" + ",)" * 28, None)
        self.told("(1, " * 30 + "(", 120)

    def test_every_cut_and_change(self):
        texts = ['(0, (1,), (), None, "a b")', "(True, -10)", '("",)', "(((7,),), -3, False)", "100", "None", '"T,("']
        for text in texts:
            changed = {text[:k] for k in range(len(text))}
            for k in range(len(text) + 1):
                changed.add(text[:k] + text[k + 1:])
                for sign in SIGNS:
                    changed.add(text[:k] + sign + text[k:])
                    changed.add(text[:k] + sign + text[k + 1:])
                if k + 2 <= len(text):
                    changed.add(text[:k] + text[k + 1] + text[k] + text[k + 2:])
            for other in sorted(changed):
                self.told(other, column_of_text(other))

    def test_every_sign(self):
        for sign in ALL_SIGNS:
            for text in (sign, f"1{sign}", f"-{sign}", f"({sign}", f"(1{sign}", f"(1,{sign}", f'"{sign}"', f"T{sign}", f"0{sign}"):
                self.told(text, column_of_text(text))

    def test_random_changes(self):
        chance = random.Random(7)
        for _ in range(400):
            text = data_text(some_thing(chance))
            for _ in range(chance.randint(1, 3)):
                k = chance.randrange(len(text) + 1)
                text = text[:k] + chance.choice(SIGNS) * chance.randrange(2) + text[k + chance.randrange(3):]
            self.told(text, column_of_text(text))
