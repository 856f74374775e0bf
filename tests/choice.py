"""Which kinds the tests go through."""

import random
from itertools import combinations


def small_kinds():
    """Every choice of kinds of up to 9."""
    return [[1] + list(others) for size in range(6) for others in combinations(range(2, 10), size)]


def chosen_kinds(how_many):
    """Kinds from all over 2 to 100, the same ones each time."""
    source = random.Random(20)
    return [[1] + sorted(source.sample(range(2, 101), source.randint(0, 5))) for _ in range(how_many)]
