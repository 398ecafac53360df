"""[6], [40], [41]: branches, chances, which programs are right."""

import random

from lookundone.branches import branch_of, branches_of, chance_of
from lookundone.errors import NotRight
from lookundone.likeness import alike, is_nought, square_of
from lookundone.products import added
from lookundone.programkinds import looks_of, with_turns
from lookundone.rightness import is_right, mapped, right_at
from lookundone.scaling import scaled
from lookundone.tables import is_table, nought_table, one_table
from tests.common import STEP, TWICE, StrictCase
from tests.oracles import worths
from tests.program_oracles import all_bits, branch_worths
from tests.some_programs import some_program, some_programs

NOTHING = ((), (), (), ())
PROGRAMS = [STEP, TWICE, NOTHING, ((5, 0), (0, 5), (), (7, 3))] + some_programs(60, 40, looks=4, commands=14)
# The first look shows 0 surely, so no branch with a 1 there is there at all.
SURE = ((), (1,), (("new", 0), ("look", 0, 0, (), ()), ("new", 1)), (0,))
# The other way round: the first branch is nought.
NEVER_NOUGHT = ((), (1,), (("new", 0), ("look", 0, 4, (), ()), ("new", 1)), (0,))


class BranchesTest(StrictCase):
    def test_branches(self):
        for program in PROGRAMS:
            found = []
            for outcomes in all_bits(len(looks_of(program))):
                branch = branch_of(program, outcomes)
                self.assertTrue(is_table(branch))
                self.assertEqual((branch[0], branch[1]), (len(program[1]), len(program[0])))
                self.assertEqual(worths(branch), branch_worths(program, outcomes))
                self.same(chance_of(program, outcomes), square_of(branch))
                found.append(branch)
            self.same(branches_of(program), tuple(found))

    def test_without_looks_ins_outs(self):
        self.same(branches_of(NOTHING), (one_table(0),))
        self.same(branch_of(NOTHING, ()), one_table(0))
        self.same(branches_of(((3,), (3,), (), (0,))), (one_table(1),))
        self.same(branch_of(((3,), (3,), (), (6,)), ()), (1, 1, 0, (((1, 0, 0, 0), (0,) * 4), ((0,) * 4, (0, 0, -1, 0)))))
        self.same(branches_of(((), (2,), (("new", 2),), (1,))), ((1, 0, 1, (((1, 0, 0, 0),), ((0, 1, 0, 0),))),))
        self.same(
            branches_of(((2,), (), (("look", 2, 1, (), ()),), ())),
            ((0, 1, 1, (((1, 0, 0, 0), (0, 0, 0, -1)),)), (0, 1, 1, (((1, 0, 0, 0), (0, 0, 0, 1)),))),
        )

    def test_outs_in_another_sequence(self):
        program = ((4, 2), (2, 4), (), (0, 0))
        swap = [row for row in one_table(2)[3]]
        swap[1], swap[2] = swap[2], swap[1]
        self.same(branch_of(program, ()), (2, 2, 0, tuple(swap)))
        self.same(branch_of(((4, 2), (4, 2), (), (0, 0)), ()), one_table(2))
        # The turns are those of the outs, in the sequence of the outs.
        found = branch_of(((4, 2), (2, 4), (), (1, 3)), ())
        moved = tuple(row[x] for row, x in zip(found[3], (0, 2, 1, 3)))
        self.same(moved, ((1, 0, 0, 0), (0, 1, 0, 0), (0, 0, 0, 1), (-1, 0, 0, 0)))

    def test_by_all_commands(self):
        flipped = ((0,), (0,), (("new", 1), ("look", 1, 4, (), ()), ("flip", 0, (1,))), (0,))
        self.same(branch_of(flipped, (0,)), nought_table(1, 1))
        self.same(branch_of(flipped, (1,)), (1, 1, 0, (((0,) * 4, (1, 0, 0, 0)), ((1, 0, 0, 0), (0,) * 4))))
        signed = ((0,), (0,), (("new", 1), ("look", 1, 4, (), ()), ("sign", 0, (1,))), (0,))
        self.same(branch_of(signed, (1,)), (1, 1, 0, (((1, 0, 0, 0), (0,) * 4), ((0,) * 4, (-1, 0, 0, 0)))))
        tied = ((0, 1), (0, 1), (("tie", 0, 1),), (0, 0))
        self.same(tuple(row[k] for k, row in enumerate(branch_of(tied, ())[3])), ((1, 0, 0, 0),) * 3 + ((-1, 0, 0, 0),))

    def test_odd_outcomes(self):
        for program in PROGRAMS:
            many = len(looks_of(program))
            wrongs = [None, (0,) * (many + 1), [0] * many, "0" * (many + 1), 0]
            if many:
                wrongs += [(0,) * (many - 1), (0,) * (many - 1) + (2,), (True,) + (0,) * (many - 1)]
                wrongs += [(0,) * (many - 1) + (-1,), (None,) * many, ("0",) * many, (False,) * many, (1, 1)[:1] * many + (1,)]
            for wrong in wrongs:
                self.refuses("outcomes", branch_of, program, wrong)
                self.refuses("outcomes", chance_of, program, wrong)

    def test_squares_add_up_to_one(self):
        for program in PROGRAMS:
            total = nought_table(len(program[0]), len(program[0]))
            for outcomes in all_bits(len(looks_of(program))):
                total = added(total, chance_of(program, outcomes))
            self.same(total, one_table(len(program[0])))

    def test_at_the_limits(self):
        chance = random.Random(60)
        program = some_program(chance, 3, 7, 6, 60, 200)
        found = branches_of(program)
        self.assertEqual(len(found), 2 ** len(looks_of(program)))
        for outcomes in all_bits(len(looks_of(program)))[::13]:
            number = int("".join(map(str, outcomes)) or "0", 2)
            self.same(branch_of(program, outcomes), found[number])
        # More looks than can be gone through together.
        chain = tuple(
            command for k in range(15) for command in (
                ("new", k + 1), ("tie", k, k + 1), ("look", k, k % 8, (k - 1,) if k else (), ()), ("flip", k + 1, (k,)),
            )
        )
        program = ((0,), (15,), chain, (0,))
        first = branch_of(program, (0,) * 15)
        self.assertFalse(is_nought(first))
        self.assertEqual(worths(branch_of(program, (1, 0, 1) * 5)), branch_worths(program, (1, 0, 1) * 5))


class RightnessTest(StrictCase):
    def wrong_outcomes(self, program):
        """The first outcomes at fault, by turning the first branch by all units."""
        first = branch_of(program, (0,) * len(looks_of(program)))
        for outcomes in all_bits(len(looks_of(program))):
            branch = branch_of(program, outcomes)
            if is_nought(branch) or alike(branch, first) is None:
                return outcomes
        return None

    def checks(self, program):
        wrong = self.wrong_outcomes(program)
        self.assertIs(is_right(program), wrong is None)
        turns = tuple(command[2] for command in program[2] if command[0] == "look")
        self.assertIs(right_at(program, turns), wrong is None)
        if wrong is None:
            many = len(turns)
            self.same(mapped(program), scaled(branch_of(program, (0,) * many), many))
        else:
            self.raises(NotRight, {"outcomes": wrong}, mapped, program)
        return wrong

    def test_right_and_wrong_programs(self):
        met = {self.checks(program) for program in PROGRAMS + some_programs(60, 41, looks=3, widest=3)}
        self.assertIn(None, met)
        self.assertGreater(len(met), 4)

    def test_some(self):
        self.assertIsNone(self.checks(STEP))
        self.assertIsNone(self.checks(NOTHING))
        self.assertEqual(self.checks((STEP[0], STEP[1], STEP[2][:3], STEP[3])), (1,))
        self.assertEqual(self.checks(TWICE), (1, 0))
        standard = TWICE[2][:3] + TWICE[2][3:5] + (("look", 1, 2, (0,), ()), ("flip", 2, (1,)), ("sign", 2, (0,)))
        self.assertIsNone(self.checks((TWICE[0], TWICE[1], standard, TWICE[3])))

    def test_noughts(self):
        self.assertEqual(self.checks(SURE), (1,))
        self.assertEqual(self.checks(NEVER_NOUGHT), (0,))
        # Both looks: 0 1 is there, 1 1 is not, and 0 0 is not like 0 1.
        two = ((1,), (), (("new", 0), ("look", 0, 0, (), ()), ("look", 1, 0, (), ())), ())
        self.assertEqual(self.checks(two), (0, 1))
        later = ((1,), (1,), (("new", 0), ("new", 2), ("look", 2, 2, (), ()), ("look", 0, 0, (), ())), (0,))
        self.assertEqual(self.checks(later), (0, 1))

    def test_first_outcomes_as_python_sorts(self):
        # The second look is at fault: its outcome is told last.
        ins, outs, commands, turns = STEP
        more = (("new", 2), ("look", 2, 0, (), ()))
        self.assertEqual(self.checks((ins, outs, more + commands, turns)), (1, 0))
        self.assertEqual(self.checks((ins, outs, commands + more, turns)), (0, 1))

    def test_right_at_other_turns(self):
        lone = ((), (), (("new", 0), ("look", 0, 2, (), ())), ())
        self.assertIs(is_right(lone), True)
        self.same(tuple(right_at(lone, (turn,)) for turn in range(8)), tuple(turn in (2, 6) for turn in range(8)))
        other = with_turns(lone, (1,))
        self.assertIs(is_right(other), False)
        self.assertIs(right_at(other, (6,)), True)
        for wrong in ((), (8,), (True,), [1], (1, 1), None):
            self.refuses("turns", right_at, lone, wrong)

    def test_right_at_all_turns(self):
        for turn in range(8):
            self.assertIs(right_at(STEP, (turn,)), True)
