"""Webs and plans of all sizes, for several tests."""

import itertools
import random


def some_web(chance, many, greatest=30, ins=None, outs=None, ties=0.5):
    """A web with so many dots, and so many ins and outs, or any number of them."""
    dots = tuple(sorted(chance.sample(range(greatest), many)))
    pairs = tuple(pair for pair in itertools.combinations(dots, 2) if chance.random() < ties)
    many_ins = chance.randint(0, min(many, 3)) if ins is None else ins
    many_outs = chance.randint(0, min(many, 3)) if outs is None else outs
    return dots, pairs, tuple(chance.sample(dots, many_ins)), tuple(chance.sample(dots, many_outs))


def some_webs(count, seed, most=6):
    chance = random.Random(seed)
    return [some_web(chance, k % (most + 1)) for k in range(count)]


def wide_web(seed, many=60, ends=20):
    chance = random.Random(seed)
    return some_web(chance, many, 10000, ends, ends, 0.2)


def with_angles(chance, web):
    return web, tuple(chance.randint(0, 7) for _ in web[0])


def some_plans(count, seed, most=5):
    chance = random.Random(seed)
    return [with_angles(chance, web) for web in some_webs(count, seed + 1, most)]
