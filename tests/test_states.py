"""[6], [39]: states, from the start on, and ones that are not the package's own."""

import itertools
import random

from lookundone.branches import branch_of
from lookundone.shifting import shifted
from lookundone.states import state_after, state_start
from lookundone.tables import is_table, nought_table, one_table, table_of
from tests.common import STEP, TWICE, StrictCase
from tests.oracles import product, root_power, unit_parts, worths
from tests.program_oracles import all_bits, amounts_behind, branch_worths
from tests.some_programs import some_programs

PLUS_START = (1, 0, 1, (((1, 0, 0, 0),), ((1, 0, 0, 0),)))
# States that no commands lead to: live dots in any sequence, tables with any values in their one form.
FOREIGN = (
    ((7, 2), ((1, 1), (5, 0)), table_of(2, 1, 3, tuple(((k, 1, 0, -2), (0, k, 5, 0)) for k in range(4)))),
    ((3,), ((0, 1),), nought_table(1, 3)),
    ((9, 0, 4), (), table_of(3, 0, 1, tuple(((3 * k, 1, -k, 1),) for k in range(8)))),
    ((), ((2, 0), (8, 1), (9999, 1)), table_of(0, 2, 0, (((1, 2, 3, 4), (0, 0, 0, 0), (5, 0, 0, 0), (0, 0, 7, 0)),))),
    ((2, 8), ((0, 0), (1, 1), (4, 1)), table_of(2, 0, 60, tuple(((1, 0, 0, k),) for k in range(4)))),
)


def state_parts(state):
    """For each start the worths by the lots of live dots with a 1."""
    live, _, table = state
    for x in range(2 ** table[1]):
        yield {
            frozenset(dot for k, dot in enumerate(live) if y >> k & 1): row[x] for y, row in enumerate(worths(table))
        }


class StatesTest(StrictCase):
    def test_start(self):
        self.same(state_start(()), ((), (), one_table(0)))
        self.same(state_start((4,)), ((4,), (), one_table(1)))
        self.same(state_start((9, 0, 3)), ((9, 0, 3), (), one_table(3)))
        self.same(state_start((9999, 1)), ((9999, 1), (), one_table(2)))

    def test_some_commands(self):
        start = state_start(())
        plus = state_after(start, ("new", 5), 0)
        self.same(plus, ((5,), (), PLUS_START))
        self.same(state_after(plus, ("flip", 5, ()), 0), plus)
        self.same(state_after(plus, ("sign", 5, ()), 0), plus)
        self.same(state_after(plus, ("look", 5, 0, (), ()), 0), ((), ((5, 0),), (0, 0, 0, (((1, 0, 0, 0),),))))
        self.same(state_after(plus, ("look", 5, 0, (), ()), 1), ((), ((5, 1),), nought_table(0, 0)))
        self.same(state_after(plus, ("look", 5, 4, (), ()), 1), ((), ((5, 1),), (0, 0, 0, (((1, 0, 0, 0),),))))
        for turn in range(8):
            part = [x + y for x, y in zip((1, 0, 0, 0), unit_parts(-turn))]
            wanted = table_of(0, 0, 2, ((tuple(part),),))
            self.same(state_after(plus, ("look", 5, turn, (), ()), 0), ((), ((5, 0),), wanted))

    def test_new_ones_come_last(self):
        state = state_start((8, 3))
        for dot in (5, 0, 9):
            state = state_after(state, ("new", dot), 0)
        self.same(state[0], (8, 3, 5, 0, 9))
        for dot, bit in ((3, 1), (9, 0), (8, 1)):
            state = state_after(state, ("look", dot, 2, (), ()), bit)
        self.same(state[:2], ((5, 0), ((3, 1), (8, 1), (9, 0))))

    def test_each_place_on_the_way(self):
        for ins, outs, commands, _ in some_programs(32, 39, looks=3, widest=3, commands=12):
            many = sum(command[0] == "look" for command in commands)
            for outcomes in all_bits(many):
                left = list(outcomes)
                state = state_start(ins)
                for k, command in enumerate(commands):
                    state = state_after(state, command, left.pop(0) if command[0] == "look" else 0)
                    self.assertTrue(is_table(state[2]))
                    self.assertEqual((state[2][0], state[2][1]), (len(state[0]), len(ins)))
                    done = len(outcomes) - len(left)
                    looked = [command[1] for command in commands[:k + 1] if command[0] == "look"]
                    self.same(state[1], tuple(sorted(zip(looked, outcomes[:done]))))
                    live = state[0]
                    wanted = branch_worths((ins, live, commands[:k + 1], (0,) * len(live)), outcomes[:done])
                    self.assertEqual(worths(state[2]), wanted)
                self.assertEqual(sorted(state[0]), sorted(outs))

    def test_states_give_the_branch(self):
        for program in [STEP, TWICE] + some_programs(40, 44, looks=3, commands=14):
            ins, outs, commands, turns = program
            for outcomes in all_bits(sum(command[0] == "look" for command in commands)):
                left = list(outcomes)
                state = state_start(ins)
                for command in commands:
                    state = state_after(state, command, left.pop(0) if command[0] == "look" else 0)
                live, _, (many, wide, power, rows) = state
                # The outs put in their sequence, then turned.
                places = [live.index(out) for out in outs]
                put = tuple(
                    rows[sum((y >> k & 1) << place for k, place in enumerate(places))] for y in range(2 ** many)
                )
                nought = (0,) * many
                self.same(shifted((many, wide, power, put), nought, nought, turns), branch_of(program, outcomes))

    def test_foreign_states(self):
        for state in FOREIGN:
            live, told, table = state
            lots = [lot for many in range(len(told) + 1) for lot in itertools.combinations([dot for dot, _ in told], many)]
            commands = [("new", dot) for dot in (6, 9998)]
            commands += [("tie", *sorted(pair)) for pair in itertools.combinations(live, 2)]
            commands += [(word, dot, lot) for word in ("flip", "sign") for dot in live for lot in lots]
            commands += [("look", dot, turn, waits, adds) for dot in live for turn in (1, 6) for waits in lots for adds in lots]
            for command in commands:
                for bit in (0, 1) if command[0] == "look" else (0,):
                    self.follows(state, command, bit)

    def follows(self, state, command, bit):
        """What state_after returns must be what is reckoned by lots, start by start."""
        live, told, table = state
        kept = repr(state)
        found = state_after(state, command, bit)
        self.assertEqual(repr(state), kept)
        self.assertTrue(is_table(found[2]))
        new_live = [dot for dot in live if command[0] != "look" or dot != command[1]]
        new_live += [command[1]] if command[0] == "new" else []
        self.same(found[0], tuple(new_live))
        self.same(found[1], tuple(sorted(told + (((command[1], bit),) if command[0] == "look" else ()))))
        for parts, new_parts in zip(state_parts(state), state_parts(found)):
            wanted = self.behind(parts, told, command, bit)
            self.assertEqual({lot: part for lot, part in new_parts.items() if any(part)}, wanted, (state, command, bit))

    def behind(self, parts, told, command, bit):
        """What is not nought behind the command, by the lots of live dots with a 1."""
        # A look at a dot that is not there tells its outcome, and leaves all as it is, but for its root.
        shown = tuple(("look", dot, 0, (), ()) for dot, _ in told)
        outcomes = [outcome for _, outcome in told] + [bit]
        found, roots = amounts_behind(parts, shown + (command,), outcomes)
        worth = {lot: product(part, root_power(len(told) - roots)) for lot, part in found.items()}
        return {lot: part for lot, part in worth.items() if any(part)}

    def test_refused_commands(self):
        state = ((4, 0), ((2, 1), (7, 0)), table_of(2, 0, 2, tuple(((1, 0, 0, 0),) for _ in range(4))))
        for command in (
            ("new", 4), ("new", 0), ("new", 2), ("new", 7), ("tie", 0, 2), ("tie", 0, 3), ("tie", 4, 0), ("tie", 3, 4),
            ("tie", 0, 7), ("flip", 2, ()), ("flip", 3, ()), ("flip", 4, (4,)), ("flip", 4, (0,)), ("flip", 4, (3,)),
            ("flip", 4, (2, 3)), ("sign", 7, ()), ("sign", 4, (2, 4)), ("sign", 0, (7, 2)), ("look", 2, 0, (), ()),
            ("look", 4, 0, (4,), ()), ("look", 4, 0, (), (4,)), ("look", 4, 0, (0,), ()), ("look", 4, 0, (2,), (3,)),
            ("look", 4, 8, (), ()), ("look", 4, 0, (7, 2), ()), ("stay", 4, ()), ("new", 4, ()), ("new",), None, [],
            ["new", 5], ("flip", 4), ("sign", 4, 2), ("tie", 0, 4, ()), ("look", 4, 0, ()), ("new", True), ("new", "5"),
        ):
            # The command is asked ahead of the bit.
            for bit in (0, 1, 2, True, None):
                self.refuses("command", state_after, state, command, bit)
                self.refuses("command", state_after, bit=bit, command=command, state=state)

    def test_refused_bits(self):
        state = ((4, 0), ((2, 1), (7, 0)), table_of(2, 0, 2, tuple(((1, 0, 0, 0),) for _ in range(4))))
        for command in (("new", 5), ("tie", 0, 4), ("flip", 4, (2,)), ("sign", 0, (2, 7)), ("flip", 4, ())):
            state_after(state, command, 0)
            for bit in (1, 2, -1, True, False, None, "0", (0,), [0], ()):
                self.refuses("bit", state_after, state, command, bit)
        for bit in (2, -1, True, False, None, "0", (0,), [0], ()):
            self.refuses("bit", state_after, state, ("look", 4, 3, (2,), (2, 7)), bit)

    def test_wide_states(self):
        chance = random.Random(7)
        ins = (3, 1, 2)
        state = state_start(ins)
        for dot in range(10, 14):
            state = state_after(state, ("new", dot), 0)
        for _ in range(20):
            state = state_after(state, ("tie", *sorted(chance.sample(state[0], 2))), 0)
        self.assertEqual(state[2][:3], (7, 3, 4))
        for k, dot in enumerate((3, 12, 1, 13, 2, 10, 11)):
            state = state_after(state, ("look", dot, k, (), ()), k % 2)
        self.assertEqual((state[0], state[2][:2]), ((), (0, 3)))
