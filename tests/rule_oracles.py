"""Rules of plans, and circuits led back from plans, told by the words of the document with sets."""

from tests.flow_oracles import all_flows


def near_plainly(web, dot):
    return {end for tie in web[1] if dot in tie for end in tie if end != dot}


def inner_plainly(web):
    dots, _, ins, outs = web
    return [dot for dot in dots if dot not in ins and dot not in outs]


def rules_plainly(plan):
    """All rules that fit the plan."""
    web, angles = plan
    angle = dict(zip(web[0], angles))
    inner = inner_plainly(web)
    rules = [("quarter", dot) for dot in inner if angle[dot] in (2, 6)]
    for one in inner:
        for other in inner:
            if one < other and (one, other) in web[1] and angle[one] % 4 == 0 and angle[other] % 4 == 0:
                rules.append(("halves", one, other))
    for dot in inner:
        for one in inner:
            for other in web[0]:
                if angle[dot] % 4 == 0 and one != other and near_plainly(web, dot) == {one, other}:
                    rules.append(("merge", dot, one, other))
    return tuple(rules)


class Changing:
    """A plan whose ties and angles are changed."""

    def __init__(self, plan):
        (self.dots, ties, self.ins, self.outs), angles = plan
        self.ties = {frozenset(tie) for tie in ties}
        self.angle = dict(zip(self.dots, angles))

    def toggle(self, one, other):
        self.ties ^= {frozenset((one, other))}

    def gets(self, dot, turn):
        self.angle[dot] = (self.angle[dot] + turn) % 8

    def plan(self, gone=()):
        dots = tuple(dot for dot in self.dots if dot not in gone)
        ties = sorted(tuple(sorted(tie)) for tie in self.ties if not tie & set(gone))
        return (dots, tuple(ties), self.ins, self.outs), tuple(self.angle[dot] for dot in dots)


def rule_done_plainly(plan, rule):
    """The plan behind the rule, and its turn."""
    web, angles = plan
    angle = dict(zip(web[0], angles))
    new = Changing(plan)
    word, dot, *others = rule
    near = near_plainly(web, dot)
    turn = 0
    if word == "quarter":
        for one in near:
            for other in near:
                if one < other:
                    new.toggle(one, other)
            new.gets(one, {2: 6, 6: 2}[angle[dot]])
        return new.plan((dot,)), {2: 7, 6: 1}[angle[dot]]
    if word == "halves":
        other = others[0]
        first, second = near - {other}, near_plainly(web, other) - {dot}
        kinds = (first - second, second - first, first & second)
        for j in range(3):
            for k in range(j):
                for one in kinds[j]:
                    for far in kinds[k]:
                        new.toggle(one, far)
        for far in kinds[2]:
            new.gets(far, 4)
        if angle[other] == 4:
            for far in first:
                new.gets(far, 4)
        if angle[dot] == 4:
            for far in second:
                new.gets(far, 4)
        return new.plan((dot, other)), 4 if angle[dot] == angle[other] == 4 else 0
    inner, other = others
    rest = near_plainly(web, inner) - {dot, other}
    for far in rest:
        new.toggle(far, other)
    if angle[dot] == 0:
        new.gets(other, angle[inner])
        if frozenset((inner, other)) in new.ties:
            new.gets(other, 4)
    else:
        new.gets(other, -angle[inner])
        for far in rest:
            new.gets(far, 4)
        turn = -angle[inner] % 8
    return new.plan((dot, inner)), turn


def circuit_plainly(plan):
    """The circuit to which a plan is led back, step by step."""
    gates = []
    while True:
        (dots, ties, ins, outs), _ = plan
        new = Changing(plan)
        for wire, out in enumerate(outs):
            if new.angle[out]:
                gates.append(("turn", (8 - new.angle[out]) % 8, wire))
                new.angle[out] = 0
        for j in range(len(outs)):
            for k in range(j + 1, len(outs)):
                if frozenset((outs[j], outs[k])) in new.ties:
                    gates.append(("cz", j, k))
                    new.toggle(outs[j], outs[k])
        web = new.plan()[0]
        looked = [dot for dot in dots if dot not in outs]
        if not looked:
            break
        flow = dict(next(all_flows(web)))
        u = min(dot for dot in looked if set(flow[dot]) <= set(outs))
        s = min(flow[u])
        for t in flow[u][1:]:
            gates.append(("cx", outs.index(s), outs.index(t)))
            for far in near_plainly(web, t):
                new.toggle(s, far)
        assert near_plainly(new.plan()[0], s) == {u}
        gates.append(("h", outs.index(s)))
        new.outs = tuple(u if out == s else out for out in outs)
        plan = new.plan((s,))
    outs = list(outs)
    for k, dot in enumerate(ins):
        if outs[k] != dot:
            j = outs.index(dot)
            gates.append(("swap", k, j))
            outs[k], outs[j] = outs[j], outs[k]
    return len(ins), tuple(reversed(gates))
