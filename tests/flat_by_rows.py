"""Another way to make a circuit of a book: row by row of its text, as a small machine."""

import ast
import re

BOUND = 10 ** 6


class Fault(Exception):
    def __init__(self, word, row):
        Exception.__init__(self, word, row)
        self.fields = {"word": word, "line": row}


class TooLong(Exception):
    """More lines are done than the document speaks of."""


def worth(text, names):
    """What an expr comes to, or the word of what is wrong; names are known to be there."""

    def of(node):
        if isinstance(node, ast.Expression):
            return of(node.body)
        if isinstance(node, ast.Constant):
            found = node.value
        elif isinstance(node, ast.Name):
            found = names[node.id]
        elif isinstance(node, ast.UnaryOp):
            found = -of(node.operand)
        else:
            left, right = of(node.left), of(node.right)
            found = {ast.Add: left + right, ast.Sub: left - right, ast.Mult: left * right}[type(node.op)]
        if abs(found) > BOUND:
            raise OverflowError
        return found

    return of(ast.parse(text, mode="eval"))


def split_ws(text):
    """The pairs (name, index text or None) of the wires, items and buses at the end of a row."""
    found = []
    while text:
        name = re.match("[a-z0-9_]+", text).group()
        text = text[len(name):]
        index = None
        if text.startswith("["):
            index, _, text = text[1:].partition("]")
        found.append((name, index))
        text = text.lstrip(" ")
    return found


class Rows:
    def __init__(self, text):
        self.rows = [row.strip() for row in text.split("\n")]
        self.close = {}
        stack = []
        for k, row in enumerate(self.rows):
            word = row.split(" ")[0]
            if word in ("part", "times", "for", "back"):
                stack.append(k)
            elif word == "end":
                self.close[stack.pop()] = k
        self.parts = {}
        for k, row in enumerate(self.rows):
            if row.startswith("part "):
                _, name, rest = row.split(" ", 2)
                wires = [(wire, 0 if index is None else int(index)) for wire, index in split_ws(rest)]
                if name in self.parts or len({wire for wire, _ in wires}) < len(wires):
                    raise Fault("twice", k)
                self.parts[name] = (k, wires)
        self.done = 0

    def flat(self, name):
        start, wires = self.parts[name]
        places = {}
        many = 0
        for wire, width in wires:
            places[wire] = (width, list(range(many, many + max(width, 1))))
            many += max(width, 1)
        return many, tuple(self.run(start, [name], places, {}))

    def run(self, start, chain, places, names):
        """The gates of the rows behind this one, up to the end that closes it."""
        gates = []
        row = start + 1
        while row < self.close[start]:
            gates += self.do(row, chain, places, names)
            row = self.close.get(row, row) + 1
        return gates

    def do(self, row, chain, places, names):
        self.done += 1
        if self.done > 2000:
            raise TooLong
        word, _, rest = self.rows[row].partition(" ")
        ws, exprs, used = [], [], None
        if word == "turn":
            # The wire is the last word, or the last one ahead of its bracket.
            cut = re.search(r" [a-z0-9_]+(\[[^]]*\])?\Z", rest).start()
            exprs, ws = [rest[:cut]], split_ws(rest[cut + 1:])
        elif word == "use":
            used, _, more = rest.partition(" ")
            ws = split_ws(more)
        elif word == "times":
            exprs = [rest]
        elif word == "for":
            loop_name, _, more = rest.partition(" ")
            exprs = more.split(" to ")
        elif word != "back":
            ws = split_ws(rest)
        self.check(row, chain, places, names, used, ws, exprs)
        worths = [worth(expr, names) for expr in exprs]
        wires = self.wires(ws, places, names)
        if word == "use":
            inner = {}
            for (wire, width), w in zip(self.parts[used][1], ws):
                inner[wire] = (width, self.wires([w], places, names))
            return self.run(self.parts[used][0], chain + [used], inner, {})
        if word == "times":
            self.refuse(not 0 <= worths[0] <= 64, "times", row)
            return [gate for _ in range(worths[0]) for gate in self.run(row, chain, places, names)]
        if word == "for":
            turns = range(worths[0], worths[1] + 1)
            self.refuse(len(turns) > 64, "times", row)
            return [gate for k in turns for gate in self.run(row, chain, places, {**names, loop_name: k})]
        if word == "back":
            gates = self.run(row, chain, places, names)[::-1]
            return [("turn", 8 - gate[1], gate[2]) if gate[0] == "turn" else gate for gate in gates]
        return self.gates(word, wires, worths)

    def gates(self, word, wires, worths):
        if word == "turn":
            return [("turn", worths[0] & 7, wires[0])] * (worths[0] & 7 > 0)
        if word == "x":
            return [("h", wires[0]), ("turn", 4, wires[0]), ("h", wires[0])]
        if word == "z":
            return [("turn", 4, wires[0])]
        if word == "ccz":
            a, b, c = wires
            return [
                ("turn", 1, a), ("turn", 1, b), ("turn", 1, c), ("cx", a, b), ("turn", 7, b), ("cx", c, b), ("turn", 1, b),
                ("cx", a, b), ("turn", 7, b), ("cx", c, b), ("cx", a, c), ("turn", 7, c), ("cx", a, c),
            ]
        return [(word, *wires)]

    def wires(self, ws, places, names):
        found = []
        for name, index in ws:
            width, wires = places[name]
            found += wires if index is None else [wires[worth(index, names)]]
        return found

    def refuse(self, is_wrong, word, row):
        if is_wrong:
            raise Fault(word, row)

    def check(self, row, chain, places, names, used, ws, exprs):
        self.refuse(used is not None and used not in self.parts, "part", row)
        self.refuse(used is not None and used in chain, "ring", row)
        all_exprs = exprs + [index for _, index in ws if index is not None]
        self.refuse(any(name not in places for name, _ in ws), "name", row)
        told = [name for expr in all_exprs for name in re.findall("[a-z][a-z0-9_]*", expr)]
        self.refuse(any(name not in names for name in told), "name", row)
        try:
            for expr in all_exprs:
                worth(expr, names)
        except OverflowError:
            raise Fault("great", row)
        for name, index in ws:
            is_bus = places[name][0] > 0
            self.refuse(is_bus and index is None and used is None, "bus", row)
            self.refuse(not is_bus and index is not None, "bus", row)
        for name, index in ws:
            self.refuse(index is not None and worth(index, names) not in range(places[name][0]), "place", row)
        if used is not None:
            widths = [width for _, width in self.parts[used][1]]
            given = [places[name][0] if index is None else 0 for name, index in ws]
            self.refuse(given != widths, "width", row)
        wires = self.wires(ws, places, names)
        self.refuse(len(wires) != len(set(wires)), "same", row)
