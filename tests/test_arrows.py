"""[56] to [58]: arrows, rounds, chains, rings, rows of dots that keep arrows."""

import itertools
import random

from lookundone.arrowkinds import arrows_back, dots_in, is_arrows
from lookundone.heights import heights_of, longest_chain
from lookundone.linear import come_from, keeps_arrows, linear_of, linears_of
from lookundone.rings import shortest_ring
from tests.common import ANY_VALUES, StrictCase, wrong_places

WITHOUT_RING = (
    ((), ()), ((3,), ()), ((3, 5), ()), ((3, 5), ((3, 5),)), ((3, 5), ((5, 3),)), ((0, 1, 2), ((0, 1), (0, 2), (1, 2))),
    ((0, 1, 2, 9999), ((1, 0), (2, 1), (9999, 2))), ((0, 1, 2, 3), ((0, 3), (1, 3), (2, 3))), ((1, 4, 6, 8), ((4, 1), (8, 6))),
)
WITH_RING = (
    ((3,), ((3, 3),)), ((3, 5), ((3, 5), (5, 3))), ((3, 5), ((3, 5), (5, 5))), ((0, 1, 2), ((0, 1), (1, 2), (2, 0))),
    ((0, 1, 2, 3), ((0, 1), (1, 2), (2, 1), (2, 3))), ((0, 1, 2, 3, 4), ((0, 1), (1, 2), (2, 3), (3, 4), (4, 0))),
)


def some_arrows(chance, many, likely, greatest=40):
    dots = tuple(sorted(chance.sample(range(greatest), many)))
    pairs = itertools.product(dots, repeat=2)
    return dots, tuple(sorted(pair for pair in pairs if chance.random() < likely))


def without_rings(chance, many, likely, greatest=40):
    dots = tuple(sorted(chance.sample(range(greatest), many)))
    sequence = chance.sample(dots, many)
    pairs = itertools.combinations(sequence, 2)
    return dots, tuple(sorted(pair for pair in pairs if chance.random() < likely))


def many_arrows(count, seed):
    chance = random.Random(seed)
    found = list(WITHOUT_RING + WITH_RING)
    for k in range(count):
        found.append(some_arrows(chance, k % 6, chance.choice((0.05, 0.15, 0.3, 0.6))))
        found.append(without_rings(chance, k % 7, chance.choice((0.1, 0.3, 0.6, 1))))
    return found


ALL = many_arrows(80, 56)


def is_arrows_plainly(thing):
    if type(thing) is not tuple or not all(type(pair) is tuple and len(pair) == 2 for pair in thing):
        return False
    if not all(type(dot) is int and 0 <= dot <= 9999 for pair in thing for dot in pair):
        return False
    return list(thing) == sorted(set(thing))


def rings_plainly(dots, arrows):
    """All rings, by going through all tuples of different dots."""
    for many in range(1, len(dots) + 1):
        for ring in itertools.permutations(dots, many):
            if all(pair in arrows for pair in zip(ring, ring[1:] + ring[:1])):
                yield ring


def chains_plainly(dots, arrows):
    for many in range(len(dots) + 1):
        for chain in itertools.permutations(dots, many):
            if all(pair in arrows for pair in zip(chain, chain[1:])):
                yield chain


class ArrowKindsTest(StrictCase):
    def test_arrows(self):
        for _, arrows in ALL:
            self.assertIs(is_arrows(arrows), True)
        self.assertIs(is_arrows(((0, 0), (0, 9999), (9999, 0))), True)

    def test_no_arrows(self):
        for thing in (
            None, 0, True, "", [], [(0, 1)], (0, 1), ([0, 1],), ((0,),), ((0, 1, 2),), ((0, 1), (0, 1)), ((0, 2), (0, 1)),
            ((1, 0), (0, 1)), ((0, 10000),), ((-1, 0),), ((True, 0),), ((0, False),), (("0", 1),), ((0, None),), ((0, (1,)),),
            (None,), ((),), ("01",), ((0, 1), None), (((0, 1),),),
        ):
            self.assertIs(is_arrows(thing), False, thing)
        for thing in ANY_VALUES:
            self.assertIs(is_arrows(thing), thing == (), thing)
        met = [0, 0]
        for wrong in wrong_places(((0, 1), (1, 2)), (None, True, False, -1, 0, 1, 10000, "", [], ())):
            wanted = is_arrows_plainly(wrong)
            self.assertIs(is_arrows(wrong), wanted, wrong)
            met[wanted] += 1
        self.assertGreater(min(met), 3)

    def test_dots_and_back(self):
        for _, arrows in ALL:
            self.same(dots_in(arrows), tuple(sorted({dot for arrow in arrows for dot in arrow})))
            self.same(arrows_back(arrows), tuple(sorted(arrow[::-1] for arrow in arrows)))
            self.same(arrows_back(arrows_back(arrows)), arrows)
        self.same(dots_in(()), ())
        self.same(dots_in(((7, 7),)), (7,))
        self.same(dots_in(((2, 9), (4, 2))), (2, 4, 9))
        self.same(arrows_back(((2, 9), (4, 2))), ((2, 4), (9, 2)))


class HeightsTest(StrictCase):
    def test_heights_and_chains(self):
        for dots, arrows in ALL:
            if next(rings_plainly(dots, arrows), None) is not None:
                self.assertIsNone(heights_of(dots, arrows))
                self.refuses("arrows", longest_chain, dots, arrows)
                continue
            chains = list(chains_plainly(dots, arrows))
            wanted = tuple((dot, max(len(chain) for chain in chains if chain[-1:] == (dot,))) for dot in dots)
            self.same(heights_of(dots, arrows), wanted)
            found = longest_chain(dots, arrows)
            self.assertIn(found, chains)
            self.assertEqual(len(found), max(map(len, chains)))
            self.assertEqual(len(found), max([many for _, many in heights_of(dots, arrows)], default=0))

    def test_some(self):
        self.same(heights_of((), ()), ())
        self.same(longest_chain((), ()), ())
        self.same(heights_of((2, 5), ()), ((2, 1), (5, 1)))
        self.same(heights_of((2, 5), ((5, 2),)), ((2, 2), (5, 1)))
        self.same(longest_chain((2, 5), ((5, 2),)), (5, 2))
        self.assertIsNone(heights_of((2,), ((2, 2),)))

    def test_sixty_dots(self):
        chance = random.Random(60)
        for likely in (0.02, 0.1, 0.5, 1):
            dots, arrows = without_rings(chance, 60, likely, 10000)
            found = dict(heights_of(dots, arrows))
            for dot in dots:
                self.assertEqual(found[dot], 1 + max([found[one] for one, other in arrows if other == dot], default=0))
            chain = longest_chain(dots, arrows)
            self.assertEqual(len(chain), max(found.values()))
            self.assertTrue(all(pair in arrows for pair in zip(chain, chain[1:])))
            back = next((pair[::-1] for pair in arrows), None)
            if back:
                self.assertIsNone(heights_of(dots, tuple(sorted(arrows + (back,)))))


class RingsTest(StrictCase):
    def test_against_all(self):
        for dots, arrows in ALL:
            rings = list(rings_plainly(dots, arrows))
            found = shortest_ring(dots, arrows)
            if not rings:
                self.assertIsNone(found)
            else:
                self.assertIs(type(found), tuple)
                self.assertIn(found, rings)
                self.assertEqual(len(found), min(map(len, rings)))

    def test_rings_of_each_length(self):
        for many in range(1, 61):
            dots = tuple(range(100, 100 + many))
            ring = tuple(sorted((dot, 100 + (dot - 99) % many) for dot in dots))
            found = shortest_ring(dots, ring)
            self.assertEqual(sorted(found), list(dots))
            self.assertTrue(all(pair in ring for pair in zip(found, found[1:] + found[:1])))
            self.assertIsNone(shortest_ring(dots, ring[1:]))
            self.assertIsNone(linear_of(dots, ring))
            self.refuses("arrows", longest_chain, dots, ring)
            if many > 4:
                shorter = tuple(sorted(ring + ((dots[3], dots[1]),)))
                self.assertEqual(sorted(shortest_ring(dots, shorter)), [101, 102, 103])
                self.same(shortest_ring(dots, tuple(sorted(shorter + ((dots[4], dots[4]),)))), (104,))

    def test_sixty_dots(self):
        chance = random.Random(57)
        for likely in (0.01, 0.03, 0.2):
            dots, arrows = some_arrows(chance, 60, likely, 10000)
            arrows = tuple(arrow for arrow in arrows if arrow[0] != arrow[1])
            found = shortest_ring(dots, arrows)
            # How far it is from each dot back to itself, by going on one arrow at a time.
            best = None
            for dot in dots:
                reached, many = {dot}, 0
                while many < 61 and (many == 0 or dot not in reached):
                    reached = {other for one, other in arrows if one in reached}
                    many += 1
                best = min(best or 61, many)
            self.assertEqual(len(found) if found else 61, best)
            if found:
                self.assertTrue(all(pair in arrows for pair in zip(found, found[1:] + found[:1])))
                self.assertEqual(len(set(found)), len(found))


class LinearTest(StrictCase):
    def test_linears(self):
        for dots, arrows in ALL:
            wanted = tuple(
                order for order in itertools.permutations(dots)
                if all(order.index(one) < order.index(other) for one, other in arrows)
            )
            self.same(linears_of(dots, arrows), wanted)
            self.assertEqual(list(wanted), sorted(wanted))
            self.same(linear_of(dots, arrows), wanted[0] if wanted else None)
            for order in itertools.islice(itertools.permutations(dots), 130):
                self.assertIs(keeps_arrows(order, arrows), order in wanted)

    def test_some(self):
        self.same(linears_of((), ()), ((),))
        self.same(linear_of((), ()), ())
        self.assertIs(keeps_arrows((), ()), True)
        self.same(linears_of((2,), ((2, 2),)), ())
        self.assertIs(keeps_arrows((2,), ((2, 2),)), False)
        self.assertIs(keeps_arrows((2, 1), ((2, 1),)), True)
        self.assertIs(keeps_arrows((1, 2), ((2, 1),)), False)
        self.same(linear_of((1, 2, 3), ((2, 1),)), (2, 1, 3))
        self.same(linear_of((1, 2, 3), ((3, 1),)), (2, 3, 1))
        self.same(linears_of((1, 2, 3), ((3, 1),)), ((2, 3, 1), (3, 1, 2), (3, 2, 1)))
        self.same(len(linears_of(tuple(range(6)), ())), 720)

    def test_dots_that_are_lacking(self):
        for arrows in (((0, 3),), ((3, 0),), ((3, 3),), ((0, 1), (1, 3)), ((9999, 9999),)):
            for call in (heights_of, longest_chain, shortest_ring, linear_of, linears_of):
                self.refuses("arrows", call, (0, 1), arrows)
            for order in ((0, 1), (1, 0)):
                self.refuses("arrows", keeps_arrows, order, arrows)
        for wrong in ANY_VALUES:
            if wrong != ():
                for call in (heights_of, longest_chain, shortest_ring, linear_of, linears_of, keeps_arrows):
                    self.refuses("arrows", call, (0, 1), wrong)

    def test_sixty_dots(self):
        chance = random.Random(61)
        for likely in (0, 0.02, 0.1, 0.5, 1):
            dots, arrows = without_rings(chance, 60, likely, 10000)
            found = linear_of(dots, arrows)
            self.assertEqual(sorted(found), list(dots))
            self.assertIs(keeps_arrows(found, arrows), True)
            for k, dot in enumerate(found):
                free = [
                    other for other in found[k:] if not any(one in found[k:] for one, last in arrows if last == other)
                ]
                self.assertEqual(dot, min(free))
            self.assertIs(keeps_arrows(found[::-1], arrows), not arrows)

    def test_come_from(self):
        for dots, arrows in ALL:
            for dot in (*dots, 39, 9999):
                met = {other for one, other in arrows if one == dot}
                for _ in dots:
                    met |= {other for one, other in arrows if one in met}
                self.same(come_from(arrows, dot), tuple(sorted(met)))
        self.same(come_from((), 0), ())
        self.same(come_from(((1, 2),), 2), ())
        self.same(come_from(((1, 2),), 3), ())
        self.same(come_from(((1, 2), (2, 1)), 2), (1, 2))
        self.same(come_from(((1, 1),), 1), (1,))
        chain = tuple((k, k + 1) for k in range(59))
        self.same(come_from(chain, 20), tuple(range(21, 60)))
        for wrong in (None, True, False, -1, 10000, "1", (1,), [1], ()):
            self.refuses("dot", come_from, ((0, 1),), wrong)

    def test_consequences(self):
        for dots, arrows in ALL:
            has_ring = shortest_ring(dots, arrows) is not None
            self.assertEqual(heights_of(dots, arrows) is None, has_ring)
            self.assertEqual(linear_of(dots, arrows) is None, has_ring)
            self.assertEqual(linears_of(dots, arrows) == (), has_ring)
            if not has_ring:
                self.same(linears_of(dots, arrows)[0], linear_of(dots, arrows))
