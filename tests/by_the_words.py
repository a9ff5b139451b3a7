"""The document's promises said once more, as near to its words as can be and without care for time."""

import functools
import itertools
from fractions import Fraction


def heights(row):
    return [sum(row[:k]) for k in range(len(row) + 1)]


def first_top(row):
    reached = heights(row)
    return min(k for k in range(len(reached)) if all(reached[k] >= other for other in reached))


def times_above(row):
    return sum(1 for k in range(1, len(row) + 1) if sum(row[:k]) > 0)


def times_back(row):
    return sum(1 for k in range(1, len(row) + 1) if sum(row[:k]) == 0)


def turned(row, k):
    return [step if place < k else -step for place, step in enumerate(row)]


def begun(row, j):
    return [row[(place + j) % len(row)] for place in range(len(row))]


def good_starts(row):
    return sum(1 for j in range(len(row)) if all(sum(begun(row, j)[:k]) > 0 for k in range(1, len(row) + 1)))


@functools.lru_cache(maxsize=None)
def ways_between(n, lo, hi, a, b):
    if not lo <= a <= hi:
        return 0
    if n == 0:
        return 1 if a == b else 0
    return ways_between(n - 1, lo, hi, a + 1, b) + ways_between(n - 1, lo, hi, a - 1, b)


@functools.lru_cache(maxsize=None)
def orders_of(row):
    """For each r how many orders are above just r times, and how many have a first top of r."""
    above = [0] * (len(row) + 1)
    top = [0] * (len(row) + 1)
    for order in itertools.permutations(row):
        reached = list(itertools.accumulate(order, initial=0))
        above[sum(1 for height in reached if height > 0)] += 1
        top[reached.index(max(reached))] += 1
    return list(zip(above, top))


def chance_of(p, q, i, n):
    if p == q:
        return Fraction(i, n)
    ratio = Fraction(q, p)
    return (1 - ratio ** i) / (1 - ratio ** n)


class Told:
    """The answers to one call behind another, each as the list of its numbers."""

    def __init__(self):
        self.row = []

    def call(self, handed):
        names = "begin steps height top above returns turn start starts ways orders chance".split()
        return getattr(self, names[handed[0]])(*handed[1:])

    def begin(self):
        self.row = []
        return [0]

    def steps(self, n, *numbers):
        row = [number if number < 128 else number - 256 for number in numbers]
        if not 0 <= n <= 64:
            return [-1]
        if not all(-100 <= step <= 100 for step in row):
            return [-2]
        self.row = row
        return [n]

    def height(self, k):
        return [heights(self.row)[k] if 0 <= k <= len(self.row) else -20000]

    def top(self):
        return [first_top(self.row)]

    def above(self):
        return [times_above(self.row)]

    def returns(self):
        return [times_back(self.row)]

    def turn(self, h):
        for k in range(len(self.row) + 1):
            if sum(self.row[:k]) == h:
                self.row = turned(self.row, k)
                return [k]
        return [-2]

    def start(self, j):
        if not 0 <= j <= len(self.row):
            return [-1]
        self.row = begun(self.row, j)
        return [0]

    def starts(self):
        return [good_starts(self.row)]

    def ways(self, n, lo, hi, a, b):
        if not 0 <= n <= 60 or not all(-100 <= place <= 100 for place in (lo, hi, a, b)):
            return [-1]
        return [0, ways_between(n, lo, hi, a, b)]

    def orders(self, r):
        if len(self.row) > 8 or not 0 <= r <= len(self.row):
            return [-1]
        return [0, *orders_of(tuple(self.row))[r]]

    def chance(self, p, q, i, n):
        if not (1 <= p <= 16 and 1 <= q <= 16 and 1 <= n <= 15 and 0 <= i <= n):
            return [-1]
        likely = chance_of(p, q, i, n)
        return [0, likely.numerator, likely.denominator]
