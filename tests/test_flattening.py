"""[27], [28]: circuits of books, names of wires, texts of circuits."""

import random

from lookundone.bookreader import read_book
from lookundone.booktexts import book_text
from lookundone.circuitbooks import circuit_text
from lookundone.errors import BadScore
from lookundone.flattening import flat, wire_names
from lookundone.gatekinds import ccz_gates, is_circuit
from lookundone.gatetables import plain_table
from lookundone.products import mirrored
from tests.common import StrictCase
from tests.flat_by_rows import Fault, Rows, TooLong
from tests.test_circuits import all_gates, some_circuit


class FlatCase(StrictCase):
    def gates(self, lines, wires="a b c q[3]", others=""):
        """The gates of a part with these lines, told apart by / ."""
        book = read_book(f"part p {wires}\n{lines}\nend\n{others}".replace(" / ", "\n"))
        many, gates = flat(book, "p")
        self.assertIs(is_circuit((many, gates)), True)
        self.same(flat(book, "p"), (many, gates))
        return gates

    def bad(self, word, line, score, name="p"):
        """The score must be refused at this line of the text of its book."""
        self.raises(BadScore, {"word": word, "line": line}, flat, read_book(score.replace(" / ", "\n")), name)

    def bad_line(self, word, line, wires="a b c q[3]", others="part f x1\nend"):
        """A line alone in its part must be refused so; it needs all its words."""
        self.bad(word, 1, f"part p {wires} / {line} / end / {others}")
        self.bad(word, 3, f"part p {wires} / back / end / {line} / h nope / end / {others}")


class FlatTest(FlatCase):
    def test_each_gate(self):
        self.same(self.gates("h a"), (("h", 0),))
        self.same(self.gates("x b"), (("h", 1), ("turn", 4, 1), ("h", 1)))
        self.same(self.gates("z c"), (("turn", 4, 2),))
        self.same(self.gates("cz a q[0]"), (("cz", 0, 3),))
        self.same(self.gates("cx q[2] b"), (("cx", 5, 1),))
        self.same(self.gates("swap q[1] a"), (("swap", 4, 0),))
        self.same(self.gates("ccz b q[1] a"), ccz_gates(1, 4, 0))
        self.same(self.gates(""), ())
        self.same(self.gates("h a / h a / z b"), (("h", 0), ("h", 0), ("turn", 4, 1)))

    def test_turns(self):
        for text, turn in (("1", 1), ("7", 7), ("8", 0), ("0", 0), ("-1", 7), ("-8", 0), ("-9", 7), ("999999", 7),
                           ("1000 * 1000", 0), ("-(1000 * 1000) + 3", 3), ("2 * 3 - 9", 5), ("16 * 3", 0), ("12", 4)):
            self.same(self.gates(f"turn {text} b"), (("turn", turn, 1),) if turn else ())

    def test_wires(self):
        book = read_book("part p q[2] a r[1] b[2]\nh q[0]\nh q[1]\nh a\nh r[0]\nh b[0]\nh b[1]\nend")
        self.same(flat(book, "p"), (6, tuple(("h", k) for k in range(6))))
        self.same(wire_names(book, "p"), ("q[0]", "q[1]", "a", "r[0]", "b[0]", "b[1]"))
        self.same(wire_names(read_book("part p a\nend"), "p"), ("a",))
        self.same(flat(read_book("part p q[6]\nend"), "p"), (6, ()))

    def test_times(self):
        self.same(self.gates("times 0 / h a / end"), ())
        self.same(self.gates("times 1 / h a / end"), (("h", 0),))
        self.same(self.gates("times 3 / h a / z b / end / h c"), (("h", 0), ("turn", 4, 1)) * 3 + (("h", 2),))
        self.same(self.gates("times 64 / h a / end"), (("h", 0),) * 64)
        self.same(self.gates("times 2 / times 3 / h a / end / h b / end"), ((("h", 0),) * 3 + (("h", 1),)) * 2)
        self.same(self.gates("times 5 - 5 / h nope / use nope a / end"), ())

    def test_for(self):
        self.same(self.gates("for i 0 to 2 / h q[i] / end"), (("h", 3), ("h", 4), ("h", 5)))
        self.same(self.gates("for i 2 to 2 / h q[i] / end"), (("h", 5),))
        self.same(self.gates("for i 2 to 1 / h q[i] / h nope / end"), ())
        self.same(self.gates("for i 999999 to -999999 / h q[i] / end"), ())
        self.same(self.gates("for i -1 to 1 / turn i a / end"), (("turn", 7, 0), ("turn", 1, 0)))
        self.same(self.gates("for i 1 to 64 / h a / end"), (("h", 0),) * 64)
        self.same(self.gates("for i -999999 to -999999 + 63 / h a / end"), (("h", 0),) * 64)
        self.same(self.gates("for i 0 to 1 / for j i to 2 / turn i + j q[j] / end / end"), (
            ("turn", 1, 4), ("turn", 2, 5), ("turn", 2, 4), ("turn", 3, 5),
        ))
        self.same(self.gates("for i 0 to 1 / times i / h a / end / end"), (("h", 0),))

    def test_for_within_for_with_one_name(self):
        self.same(self.gates("for i 1 to 2 / for i i + 1 to i + 2 / turn i a / end / turn i b / end"), (
            ("turn", 2, 0), ("turn", 3, 0), ("turn", 1, 1), ("turn", 3, 0), ("turn", 4, 0), ("turn", 2, 1),
        ))
        self.same(self.gates("for a 1 to 2 / turn a a / end"), (("turn", 1, 0), ("turn", 2, 0)))

    def test_back(self):
        self.same(self.gates("back / h a / turn 3 b / cx a b / end"), (("cx", 0, 1), ("turn", 5, 1), ("h", 0)))
        self.same(self.gates("back / back / h a / turn 3 b / end / end"), (("h", 0), ("turn", 3, 1)))
        self.same(self.gates("back / h a / back / h b / turn 1 b / end / h c / end"), (
            ("h", 2), ("h", 1), ("turn", 1, 1), ("h", 0),
        ))
        self.same(self.gates("back / z a / end"), (("turn", 4, 0),))
        self.same(self.gates("back / for i 1 to 2 / turn i a / end / end"), (("turn", 6, 0), ("turn", 7, 0)))
        self.same(self.gates("back / ccz a b c / end")[:2], (("cx", 0, 2), ("turn", 1, 2)))
        self.same(self.gates("back / end"), ())

    def test_use(self):
        others = "part f x1 y[2]\nh x1\ncx y[0] y[1]\nend\npart g x1\nback\nturn 1 x1\nend\nend"
        self.same(self.gates("use f c r", "c r[2] a", others), (("h", 0), ("cx", 1, 2)))
        self.same(self.gates("use f q[0] r", "r[2] q[1]", others), (("h", 2), ("cx", 0, 1)))
        self.same(self.gates("back / use f a r / end", "a r[2]", others), (("cx", 1, 2), ("h", 0)))
        self.same(self.gates("back / use g b / h b / end", "a b", others), (("h", 1), ("turn", 1, 1)))
        self.same(self.gates("use g q[1] / use g q[0] / use g q[1]", "q[2]", others), (
            ("turn", 7, 1), ("turn", 7, 0), ("turn", 7, 1),
        ))
        self.same(self.gates("use g2 b a", "a b", "part g2 a b\nuse g3 b a\nend\npart g3 c a\ncz c a\nend"), (("cz", 0, 1),))

    def test_use_ahead_of_its_part_and_of_this_one(self):
        book = read_book("part f a\nh a\nend\npart p a b\nuse f b\nuse g a b\nend\npart g a b\nuse f a\ncx b a\nend")
        self.same(flat(book, "p"), (2, (("h", 1), ("h", 0), ("cx", 1, 0))))
        self.same(flat(book, "g"), (2, (("h", 0), ("cx", 1, 0))))
        self.same(flat(book, "f"), (1, (("h", 0),)))

    def test_names_of_fors_end_at_a_use(self):
        self.bad("name", 6, "part p a / for i 1 to 2 / use f a / end / end / part f a / turn i a / end")
        book = read_book("part p a\nfor i 1 to 2\nuse f a\nend\nend\npart f a\nfor i 5 to 5\nturn i a\nend\nend")
        self.same(flat(book, "p"), (1, (("turn", 5, 0), ("turn", 5, 0))))

    def test_a_used_part_wider_than_six(self):
        wide = "part wide " + " ".join("abcdefg") + "\nend"
        self.same(self.gates("h a", "a b", wide), (("h", 0),))
        self.bad("width", 1, f"part p a / use wide a / end / {wide}")


class NamesTest(FlatCase):
    def test_the_first_part_of_a_name_is_meant(self):
        book = read_book("part p a b\nend\npart p q[3]\nend")
        self.same(wire_names(book, "p"), ("a", "b"))
        self.raises(BadScore, {"word": "twice", "line": 2}, flat, book, "p")
        book = read_book("part p q[6] a\nend\npart p q[3]\nend")
        self.refuses("name", wire_names, book, "p")
        self.refuses("name", flat, book, "p")

    def test_no_bad_score_of_wire_names(self):
        book = read_book("part p a a q[2] q\nh nope\nuse p a\nend")
        self.same(wire_names(book, "p"), ("a", "a", "q[0]", "q[1]", "q"))

    def test_names_that_are_refused(self):
        book = read_book("part p a b c d e f\nend\npart r a b c d e f g\nend\npart s q[6]\nend\npart t q[3] r[4]\nend")
        self.same(len(wire_names(book, "p")), 6)
        self.same(len(wire_names(book, "s")), 6)
        for name in ("r", "t", "none", "", "P", "p ", None, 0, True, ("p",), ["p"]):
            for function in (flat, wire_names):
                self.refuses("name", function, book, name)

    def test_the_name_comes_first(self):
        self.refuses("name", flat, read_book("part p a a\nend"), "q")


class BadScoreTest(FlatCase):
    def test_twice(self):
        self.bad("twice", 0, "part p a a / end")
        self.bad("twice", 0, "part p a b a[2] / end")
        self.bad("twice", 3, "part p a / h a / end / part p a / end")
        self.bad("twice", 3, "part p a / h a / end / part q b b / end")
        self.bad("twice", 5, "part p a / times 2 / h a / end / end / part p a / end")
        self.bad("twice", 4, "part p a / end / part q a / end / part q a / end")
        self.bad("twice", 2, "part p a / end / part q b b / end / part q a / end")

    def test_twice_comes_ahead_of_all_lines(self):
        self.bad("twice", 3, "part p a / use nope a / end / part q b b / end")
        self.bad("twice", 6, "part p a / h nope / end / part q b / h nope / end / part p b / end")

    def test_part(self):
        self.bad_line("part", "use nope a")
        self.bad_line("part", "use nope nope q[i] q[999999 * 9] a a")
        self.bad_line("part", "use q a")

    def test_ring(self):
        self.bad("ring", 1, "part p a / use p a / end")
        self.bad("ring", 2, "part p a / h a / use p nope / end")
        self.bad("ring", 4, "part p a / use q a / end / part q a / use p a / end")
        self.bad("ring", 4, "part p a / use q a / end / part q a / use q a a / end")
        self.bad("ring", 7, "part p a / use q a / end / part q a / use r a / end / part r a / use p a / end")
        self.bad("ring", 7, "part p a / use q a / end / part q a / use r a / end / part r a / use q a / end")
        self.same(self.gates("use f a / use f b / use g a", "a b", "part f a\nh a\nend\npart g a\nuse f a\nend"), (
            ("h", 0), ("h", 1), ("h", 0),
        ))
        self.same(self.gates("times 0 / use p a / end", "a"), ())

    def test_only_a_use_names_a_part(self):
        self.same(self.gates("for p 1 to 2 / turn p p / end", "p"), (("turn", 1, 0), ("turn", 2, 0)))
        self.same(self.gates("for f 1 to 1 / turn f f / end / use f f", "f", "part f p\nh p\nend"), (("turn", 1, 0), ("h", 0)))

    def test_name(self):
        self.bad_line("name", "h nope")
        self.bad_line("name", "h nope[0]")
        self.bad_line("name", "cx a nope")
        self.bad_line("name", "turn i a")
        self.bad_line("name", "turn a a")
        self.bad_line("name", "turn 1 q[i]")
        self.bad_line("name", "turn 999999 * 9 + i a")
        self.bad_line("name", "cx q[999999 * 9] nope")
        self.bad_line("name", "cx q nope")
        self.bad_line("name", "cx q[7] nope")
        self.bad_line("name", "use f a nope")
        self.bad_line("name", "use f q[i]")
        self.bad_line("name", "times i / end")
        self.bad_line("name", "for i 1 to i / end")
        self.bad_line("name", "for i j to 1 / end")
        self.bad_line("name", "turn q q[0]")
        self.bad("name", 4, "part p a / for i 1 to 2 / turn i a / end / turn i a / end")

    def test_great(self):
        self.bad_line("great", "turn 999999 + 2 a")
        self.bad_line("great", "turn 999999 * 9 - 999999 * 9 a")
        self.bad_line("great", "h q[999999 * 2]")
        self.bad_line("great", "cx q[9] q[999999 * 2]")
        self.bad_line("great", "cx q q[-999999 * 2]")
        self.bad_line("great", "cx a[0] q[999999 * 2]")
        self.bad_line("great", "use f q q[1001 * 1000]")
        self.bad_line("great", "times 999999 + 2 / end")
        self.bad_line("great", "for i 0 to 1001 * 1000 / end")
        self.bad_line("great", "for i -1001 * 1000 to 0 / end")
        self.same(self.gates("turn 1000 * 1000 + 0 a / turn -1000 * 1000 a / turn 999999 + 1 - 1 b"), (("turn", 7, 1),))
        self.bad("times", 1, "part p a / times 1000 * 1000 / end / end")

    def test_great_by_a_for(self):
        self.bad("great", 2, "part p a / for i 999999 to 999999 + 1 / turn i + 1 a / end / end")
        self.same(self.gates("for i 999999 to 999999 + 1 / turn i a / end"), (("turn", 7, 0),))

    def test_bus(self):
        self.bad_line("bus", "h q")
        self.bad_line("bus", "turn 1 q")
        self.bad_line("bus", "h a[0]")
        self.bad_line("bus", "h a[7]")
        self.bad_line("bus", "cx q[7] q")
        self.bad_line("bus", "cx q[7] a[0]")
        self.bad_line("bus", "ccz a a q")
        self.bad_line("bus", "use f a[0]")
        self.bad_line("bus", "use f q[9] a[0]")
        self.bad_line("bus", "h r", "r[1] q[3]")

    def test_place(self):
        self.bad_line("place", "h q[3]")
        self.bad_line("place", "h q[-1]")
        self.bad_line("place", "turn 1 q[1000]")
        self.bad_line("place", "cx a q[3]")
        self.bad_line("place", "ccz a a q[3]")
        self.bad_line("place", "use f q[3]")
        self.bad_line("place", "use f a a q[3]")
        self.bad("place", 2, "part p q[3] / for i 0 to 3 / h q[i] / end / end")

    def test_width(self):
        self.bad_line("width", "use f a b")
        self.bad_line("width", "use f a a")
        self.bad_line("width", "use f q")
        self.bad_line("width", "use f r", "r[1]")
        self.bad_line("width", "use g q", others="part g x1[2]\nend")
        self.bad_line("width", "use g q[0]", others="part g x1[1]\nend")
        self.bad_line("width", "use g a", others="part g x1[1]\nend")
        self.bad_line("width", "use g q[0] q[1]", others="part g x1[2]\nend")
        self.bad_line("width", "use g q[0] q[0] q", others="part g x1 x2[3]\nend")
        self.bad_line("width", "use g a", others="part g x1 x2\nend")
        self.same(self.gates("use g q a", others="part g x1[3] x2\nh x1[2]\nend"), (("h", 5),))

    def test_same(self):
        self.bad_line("same", "cx a a")
        self.bad_line("same", "cz q[1] q[1]")
        self.bad_line("same", "swap q[1] q[2 - 1]")
        self.bad_line("same", "ccz a b a")
        self.bad_line("same", "ccz b a a")
        self.bad_line("same", "ccz a a b")
        self.bad_line("same", "use g a a", others="part g x1 x2\nend")
        self.bad_line("same", "use g q q", others="part g x1[3] x2[3]\nend")
        self.bad_line("same", "use g q q[0]", others="part g x1[3] x2\nend")
        self.bad_line("same", "use g q[0] q", others="part g x1 x2[3]\nend")
        self.same(self.gates("use g a q[0]", others="part g x1 x2\ncx x2 x1\nend"), (("cx", 3, 0),))

    def test_times(self):
        for many in ("65", "-1", "999999", "-999999", "32 + 33"):
            self.bad_line("times", f"times {many} / end")
        for first, last in (("0", "64"), ("-32", "32"), ("1", "999999"), ("-999999", "0")):
            self.bad_line("times", f"for i {first} to {last} / end")
        self.same(self.gates("times 64 / end / for i 0 to 63 / end / for i -31 to 32 / end / for i 9 to -999999 / end"), ())

    def test_lines_come_in_the_sequence_in_which_they_are_done(self):
        self.bad("same", 2, "part p a / h a / cx a a / use nope a / end")
        self.bad("part", 4, "part p a / h a / times 0 / end / use nope a / h nope / end")
        self.bad("same", 5, "part p a / times 0 / use nope a / end / h a / cx a a / end")
        self.bad("bus", 3, "part p a q[1] / times 2 / back / h q / end / use nope a / end / end")
        self.bad("name", 7, "part p a / use q a / use nope a / end / part q a / h a / times 1 / h nope / end / end")
        self.bad("part", 2, "part p a / use q a / use nope a / end / part q a / h a / end")
        self.bad("name", 3, "part p a / for i 0 to 1 / times i / h nope / end / h a / end / end")
        self.bad("place", 2, "part p q[2] / for i 0 to 2 / h q[i] / end / h nope / end")

    def test_lines_are_those_of_the_text_of_the_book(self):
        book = read_book("# first\n\npart p a\n\n\n h a # x\n\n h nope\nend")
        self.raises(BadScore, {"word": "name", "line": 2}, flat, book, "p")


class RandomScoresTest(FlatCase):
    """Scores with all kinds of faults, told apart from right ones by a machine that goes row by row."""

    def expr(self, chance):
        return chance.choice(("0", "0", "1", "1", "2", "i", "i", "j", "i + 1", "2 - i", "-1", "3", "1000 * 1000 + i", "j * 2"))

    def w(self, chance):
        return chance.choice(("a", "a", "b", "q", "q[0]", "q[1]", f"q[{self.expr(chance)}]", "n", "a[0]"))

    def rows(self, chance, deep):
        found = []
        for _ in range(chance.randrange(4)):
            kind = chance.randrange(9 if deep < 3 else 6)
            ws = [self.w(chance) for _ in range(4)]
            if kind == 0:
                found.append(f"{chance.choice('hxz')} {ws[0]}")
            elif kind in (1, 2):
                found.append(f"{chance.choice(('cz', 'cx', 'swap'))} {ws[0]} {ws[1]}")
            elif kind == 3:
                found.append(f"turn {self.expr(chance)} {ws[0]}")
            elif kind == 4:
                found.append(f"ccz {ws[0]} {ws[1]} {ws[2]}")
            elif kind == 5:
                found.append(f"use {chance.choice(('f', 'f', 'g', 'k', 'p', 'none'))} " + " ".join(ws[:chance.randint(1, 3)]))
            else:
                head = (f"times {self.expr(chance)}", f"for {chance.choice('ij')} {self.expr(chance)} to 2", "back")[kind - 6]
                found += [head, *self.rows(chance, deep + 1), "end"]
        return found

    def test_random_scores(self):
        chance = random.Random(27)
        words = {}
        for _ in range(6000):
            score = []
            for name, wires in (("p", "a b q[2]"), ("f", "a"), ("g", "a b"), ("k", "q[2] a")):
                inner = self.rows(chance, 0)
                score += [f"part {name} {wires}", *(["for i 0 to 1", *inner, "end"] if chance.randrange(3) else inner), "end"]
            book = read_book("\n".join(score))
            try:
                wanted = Rows(book_text(book)).flat("p")
            except Fault as fault:
                words[fault.fields["word"]] = words.get(fault.fields["word"], 0) + 1
                self.raises(BadScore, fault.fields, flat, book, "p")
            except TooLong:
                continue
            else:
                words["right"] = words.get("right", 0) + 1
                self.same(flat(book, "p"), wanted)
        for word in ("part", "ring", "name", "great", "bus", "place", "width", "same", "times", "right"):
            self.assertGreater(words.get(word, 0), 10, words)


class CircuitTextTest(FlatCase):
    def test_each_gate(self):
        self.same(circuit_text((1, ())), "part main q[1]\nend")
        self.same(
            circuit_text((3, (("h", 0), ("turn", 7, 2), ("cz", 0, 1), ("cx", 2, 0), ("swap", 1, 2)))),
            "part main q[3]\n  h q[0]\n  turn 7 q[2]\n  cz q[0] q[1]\n  cx q[2] q[0]\n  swap q[1] q[2]\nend",
        )
        for wires in range(1, 7):
            for gate in all_gates(wires):
                self.same(flat(read_book(circuit_text((wires, (gate,)))), "main"), (wires, (gate,)))

    def test_read_again(self):
        chance = random.Random(8)
        for k in range(30):
            circuit = some_circuit(chance, 1 + k % 6, 12)
            text = circuit_text(circuit)
            self.same(book_text(read_book(text)), text)
            self.same(flat(read_book(text), "main"), circuit)

    def test_back_has_the_mirrored_table(self):
        chance = random.Random(9)
        for k in range(20):
            circuit = some_circuit(chance, 1 + k % 3, 8)
            rows = circuit_text(circuit).split("\n")
            text = "\n".join([rows[0], "back", *rows[1:-1], "end", "end"])
            self.same(plain_table(flat(read_book(text), "main")), mirrored(plain_table(circuit)))
