"""Points 7 to 12 of the document."""

import itertools
import math
import unittest
from fractions import Fraction

from by_the_words import good_starts, heights, orders_of, turned
from lines import (
    ABOVE, BEGIN, GREATEST, LEAST, RETURNS, STARTS, TOP, all_heights, begin_at, behind_begin, chance, height, line,
    orders, plain, steps, turn, ways,
)
from stepwalks.walk import answers


def walk_behind(row, *calls):
    """What is answered to these calls on the walk, and the heights of the walk that is there then."""
    told = plain(steps(*row), *calls, *all_heights(len(row)), height(len(row) + 1))
    assert told[0] == len(row) and told[-1] == -20000, told
    return told[1:len(calls) + 1], told[len(calls) + 1:-1]


def many(calls):
    """What is answered to each of these calls, however many: in lists of 399 behind begin."""
    each = []
    for at in range(0, len(calls), 399):
        each.extend(behind_begin(*calls[at:at + 399]))
    return each


class Turn(unittest.TestCase):  # point 7
    def test_ordinary(self):
        self.assertEqual(walk_behind([1, 2, -5, 4], turn(3)), ([2], [0, 1, 3, 8, 4]))

    def test_one_number_is_answered(self):
        self.assertEqual(answers(line(BEGIN, steps(1, 2), turn(1), turn(9))), [1, 0, 1, 2, 1, 1, 1, -2])

    def test_at_0_all_steps_are_turned(self):
        self.assertEqual(walk_behind([3, -5, 0, 2], turn(0)), ([0], [0, -3, 2, 2, 0]))
        self.assertEqual(walk_behind([1, -1, 1, -1, 6], turn(0)), ([0], [0, -1, 0, -1, 0, -6]))
        self.assertEqual(walk_behind([0, 0, 7], turn(0)), ([0], [0, 0, 0, -7]))

    def test_least_number_of_steps_counts(self):
        self.assertEqual(walk_behind([1, -1, 1, -1, 3], turn(1)), ([1], [0, 1, 2, 1, 2, -1]))
        self.assertEqual(walk_behind([-2, 0, 0, 5, -5], turn(-2)), ([1], [0, -2, -2, -2, -7, -2]))

    def test_height_behind_all_steps_alone(self):
        self.assertEqual(walk_behind([1, -1, 1, -1, 3], turn(3)), ([5], [0, 1, 0, 1, 0, 3]))
        self.assertEqual(walk_behind([-4], turn(-4)), ([1], [0, -4]))
        self.assertEqual(walk_behind([1] * 64, turn(64)), ([64], list(range(65))))

    def test_height_that_does_not_come(self):
        for h in (4, -1, 2, -5, 100, 20000, LEAST, GREATEST):
            with self.subTest(h=h):
                self.assertEqual(walk_behind([1, -1, 3, 0], turn(h)), ([-2], [0, 1, 0, 3, 3]))

    def test_passed_over_is_not_come_to(self):
        self.assertEqual(walk_behind([5, -10], turn(3), turn(-3)), ([-2, -2], [0, 5, -5]))

    def test_walk_of_no_steps(self):
        for calls in ([], [steps()]):
            told = plain(*calls, turn(0), turn(1), turn(-1), turn(LEAST), turn(GREATEST), height(0), height(1))
            self.assertEqual(told[len(calls):], [0, -2, -2, -2, -2, 0, -20000])

    def test_longest_steps(self):
        self.assertEqual(walk_behind([100, -100, -100], turn(100)), ([1], [0, 100, 200, 300]))
        down = [-100 * k for k in range(65)]
        self.assertEqual(walk_behind([100] * 64, turn(0)), ([0], down))
        self.assertEqual(walk_behind([-100] * 64, turn(-6400)), ([64], down))

    def test_the_rest_speaks_of_the_turned_walk(self):
        ask = [TOP, ABOVE, RETURNS, STARTS, orders(0), orders(3)]
        told = behind_begin(steps(1, 1, -2), *ask, turn(1), *ask)
        self.assertEqual(told[1:7], [[2], [2], [1], [0], [0, 2, 2], [0, 0, 0]])
        # The walk is 1, -1, 2 then.
        self.assertEqual(told[7:], [[1], [3], [2], [1], [1], [0, 0, 0], [0, 3, 3]])

    def test_twice_is_the_same_walk(self):
        row = [2, -3, 1, 4, -9]
        for h in heights(row):
            with self.subTest(h=h):
                told, reached = walk_behind(row, turn(h), turn(h))
                self.assertEqual(told[0], told[1])
                self.assertEqual(reached, heights(row))

    def test_one_behind_another(self):
        self.assertEqual(walk_behind([1, 1, 1, 1], turn(1), turn(-1), turn(2)), ([1, 3, -2], [0, 1, 0, -1, 0]))

    def test_all_small_walks(self):
        for count in range(5):
            for row in itertools.product((-2, -1, 0, 1), repeat=count):
                reached = heights(row)
                for h in range(-9, 6):
                    if h in reached:
                        k = min(k for k in range(count + 1) if reached[k] == h)
                        want = ([k], heights(turned(row, k)))
                    else:
                        want = ([-2], reached)
                    self.assertEqual(walk_behind(row, turn(h)), want, (row, h))


class From(unittest.TestCase):  # point 8
    ROW = [1, 20, -3, 40]

    def test_between(self):
        self.assertEqual(walk_behind(self.ROW, begin_at(1)), ([0], [0, 20, 17, 57, 58]))
        self.assertEqual(walk_behind(self.ROW, begin_at(2)), ([0], [0, -3, 37, 38, 58]))
        self.assertEqual(walk_behind(self.ROW, begin_at(3)), ([0], [0, 40, 41, 61, 58]))

    def test_the_same_walk(self):
        for j in (0, 4):
            self.assertEqual(walk_behind(self.ROW, begin_at(j)), ([0], [0, 1, 21, 18, 58]))

    def test_outside_is_refused_and_changes_nothing(self):
        for j in (-1, 5, -2, -4, 6, 64, 65, LEAST, GREATEST):
            with self.subTest(j=j):
                self.assertEqual(walk_behind(self.ROW, begin_at(j)), ([-1], [0, 1, 21, 18, 58]))

    def test_one_number_is_answered(self):
        self.assertEqual(answers(line(BEGIN, steps(1, 2), begin_at(1), begin_at(3))), [1, 0, 1, 2, 1, 0, 1, -1])

    def test_walk_of_no_steps(self):
        told = plain(begin_at(0), begin_at(-1), begin_at(1), height(0), height(1))
        self.assertEqual(told, [0, -1, -1, 0, -20000])

    def test_64_steps(self):
        row = [k - 32 for k in range(64)]
        for j in (0, 1, 31, 63, 64):
            self.assertEqual(walk_behind(row, begin_at(j)), ([0], heights(row[j:] + row[:j])))
        self.assertEqual(walk_behind(row, begin_at(65)), ([-1], heights(row)))

    def test_one_behind_another(self):
        self.assertEqual(walk_behind(self.ROW, begin_at(1), begin_at(1)), ([0, 0], [0, -3, 37, 38, 58]))
        self.assertEqual(walk_behind(self.ROW, begin_at(3), begin_at(3)), ([0, 0], [0, -3, 37, 38, 58]))

    def test_the_rest_speaks_of_the_walk_begun_there(self):
        ask = [TOP, ABOVE, RETURNS, STARTS, orders(0), orders(2)]
        told = behind_begin(steps(-1, 2, -1), *ask, begin_at(1), *ask)
        self.assertEqual(told[1:7], [[2], [1], [1], [0], [0, 2, 2], [0, 2, 2]])
        self.assertEqual(told[7:], [[0], [1], [2], [1], [0], [0, 2, 2], [0, 2, 2]])

    def test_with_turn(self):
        self.assertEqual(walk_behind([1, 2, 3], begin_at(1), turn(2)), ([0, 1], [0, 2, -1, -2]))
        self.assertEqual(walk_behind([1, 2, 3], turn(1), begin_at(1)), ([1, 0], [0, -2, -5, -4]))


class Starts(unittest.TestCase):  # point 9
    def test_walk_of_no_steps(self):
        self.assertEqual(plain(STARTS, steps(), STARTS), [0, 0, 0])

    def test_single_step(self):
        self.assertEqual(plain(steps(1), STARTS, steps(0), STARTS, steps(-1), STARTS), [1, 1, 1, 0, 1, 0])

    def test_by_hand(self):
        for row, want in (
            ([1, 1, -1], 1), ([1, -1, 1], 1), ([-1, 1, 1], 1), ([1, -1], 0), ([1, 1, 1], 3), ([0, 1], 1),
            ([1, 0], 1), ([2, 2], 2), ([5, -1, -1], 1), ([3, -1, 3, -1], 2), ([-1, -1, 5], 1), ([2, -2], 0),
            ([3, -2, 1], 2), ([0, 0], 0), ([4, 0, -3, 2], 2), ([-1, -1, 1], 0), ([100, -100, 1], 1),
        ):
            with self.subTest(row=row):
                self.assertEqual(plain(steps(*row), STARTS), [len(row), want])

    def test_64_steps(self):
        for row, want in (
            ([1] * 64, 64), ([1] * 33 + [-1] * 31, 2), ([1, -1] * 32, 0), ([100] * 64, 64), ([0] * 63 + [1], 1),
            ([100] + [-1] * 63, 1), ([-1] * 63 + [100], 1), ([-1] * 63 + [63], 0), ([-1] * 63 + [64], 1),
            ([1] * 63 + [-62], 1),
        ):
            with self.subTest(row=row):
                self.assertEqual(plain(steps(*row), STARTS), [64, want])

    def test_steps_of_1_at_most_are_kept_ahead_by_as_many_starts_as_the_last_height(self):
        for row in itertools.product((-2, -1, 0, 1), repeat=5):
            self.assertEqual(plain(steps(*row), STARTS)[1], max(0, sum(row)), row)

    def test_all_small_walks(self):
        for count in range(5):
            for row in itertools.product((-3, -1, 0, 1, 2, 4), repeat=count):
                self.assertEqual(plain(steps(*row), STARTS), [count, good_starts(row)], row)

    def test_as_from_and_above_tell(self):
        row = [3, -1, 0, 2, -4, 1, 1, 5, -2, -1]
        told = plain(*[call for j in range(10) for call in (steps(*row), begin_at(j), ABOVE)])
        want = sum(1 for above in told[2::3] if above == 10)
        self.assertEqual(plain(steps(*row), STARTS), [10, want])
        self.assertEqual(want, good_starts(row))

    def test_changes_nothing(self):
        row = [2, -1, 3, -3]
        self.assertEqual(walk_behind(row, STARTS, STARTS), ([1, 1], heights(row)))
        self.assertEqual(good_starts(row), 1)
        self.assertEqual(plain(steps(*row), *[begin_at(1), STARTS] * 4), [4] + [0, 1] * 4)


def by_reflection(n, lo, hi, a, b):
    """Walks between two walls, told from those without walls."""
    def free(way):
        return math.comb(n, (n + way) // 2) if abs(way) <= n and (n + way) % 2 == 0 else 0

    width = 2 * (hi - lo + 2)
    return sum(free(b - a + k * width) - free(2 * (hi + 1) - b - a + k * width) for k in range(-60, 61))


class Ways(unittest.TestCase):  # point 10
    def check(self, call, want):
        self.assertEqual(answers(line(BEGIN, ways(*call))), [1, 0, 2, 0, want], call)

    def refused(self, call):
        self.assertEqual(answers(line(BEGIN, ways(*call), BEGIN)), [1, 0, 1, -1, 1, 0], call)

    def test_by_hand(self):
        self.check((1, -5, 5, 0, 1), 1)
        self.check((2, -5, 5, 0, 0), 2)
        self.check((3, -1, 1, 0, 1), 2)
        self.check((4, 0, 5, 0, 0), 2)
        self.check((4, 0, 1, 0, 0), 1)
        self.check((4, 3, 9, 5, 5), 6)
        self.check((4, 4, 9, 5, 5), 5)

    def test_no_steps(self):
        self.check((0, -1, 1, 0, 0), 1)
        self.check((0, 2, 5, 2, 2), 1)
        self.check((0, 2, 5, 5, 5), 1)
        self.check((0, -1, 1, 0, 1), 0)
        self.check((0, -1, 1, 2, 2), 0)
        self.check((0, -1, 1, -2, -2), 0)
        self.check((0, 1, -1, 0, 0), 0)

    def test_60_steps_with_walls_far_away(self):
        self.check((60, -100, 100, 0, 0), 118264581564861424)
        self.check((60, -60, 60, 0, 0), math.comb(60, 30))
        self.check((60, -100, 100, -30, 30), 1)
        self.check((60, -100, 100, -29, 29), 60)
        told = many([ways(60, -100, 100, 3, b) for b in range(-57, 64)])
        self.assertEqual(told, [[0, math.comb(60, k // 2) if k % 2 == 0 else 0] for k in range(121)])
        self.assertEqual(sum(answer[1] for answer in told), 2 ** 60)

    def test_60_steps_with_walls(self):
        never_below = math.comb(60, 30) // 31
        self.check((60, 0, 100, 0, 0), never_below)
        self.check((60, -100, 0, 0, 0), never_below)
        self.check((60, -100, 100, 100, 100), never_below)
        self.check((60, -100, 100, -100, -100), never_below)
        self.check((60, 0, 1, 0, 0), 1)
        self.check((60, 0, 2, 1, 1), 2 ** 30)
        self.check((60, 0, 2, 0, 2), 2 ** 29)
        for call in (
            (60, -3, 4, 0, 2), (60, -10, 10, 10, -10), (59, -7, 20, -7, 20), (60, 0, 29, 0, 0), (60, 0, 30, 0, 0),
        ):
            self.check(call, by_reflection(*call))

    def test_walls_that_are_the_same(self):
        self.check((0, 4, 4, 4, 4), 1)
        self.check((1, 4, 4, 4, 4), 0)
        self.check((2, 4, 4, 4, 4), 0)
        self.check((0, 4, 4, 3, 3), 0)

    def test_walls_the_wrong_way_round(self):
        self.check((2, 1, 0, 0, 0), 0)
        self.check((2, 1, -1, 0, 0), 0)
        self.check((60, 100, -100, 0, 0), 0)

    def test_outside_the_walls(self):
        self.check((2, 0, 5, -1, 1), 0)
        self.check((2, 0, 5, 6, 4), 0)
        self.check((2, 0, 5, 1, -1), 0)
        self.check((2, 0, 5, 4, 6), 0)
        self.check((2, 0, 5, -1, -1), 0)

    def test_too_far_or_of_the_wrong_parity(self):
        self.check((3, -9, 9, 0, 4), 0)
        self.check((3, -9, 9, 0, 5), 0)
        self.check((3, -9, 9, 0, -5), 0)
        self.check((3, -9, 9, 0, 3), 1)
        self.check((3, -9, 9, 0, -3), 1)
        self.check((3, -9, 9, 0, 2), 0)
        self.check((3, -9, 9, 0, 0), 0)

    def test_last_allowed_numbers(self):
        self.check((0, -100, 100, 100, 100), 1)
        self.check((0, -100, 100, -100, -100), 1)
        self.check((1, 100, 100, 100, 100), 0)
        self.check((0, 100, 100, 100, 100), 1)
        self.check((0, -100, -100, -100, -100), 1)
        self.check((2, 100, 0, 0, 0), 0)
        self.check((2, 0, -100, 0, 0), 0)
        self.check((1, -100, 100, 99, 100), 1)
        self.check((1, -100, 100, 100, 99), 1)
        self.check((1, -100, 100, -99, -100), 1)

    def test_outside_is_refused(self):
        good = (2, -3, 3, 0, 0)
        self.check(good, 2)
        wrong = [(0, number) for number in (-1, 61, -2, 64, LEAST, GREATEST)]
        for place in (1, 2, 3, 4):
            wrong.extend((place, number) for number in (-101, 101, -200, 200, LEAST, GREATEST))
        for place, number in wrong:
            call = list(good)
            call[place] = number
            with self.subTest(call=call):
                self.refused(call)

    def test_refused_where_the_count_would_be_0_too(self):
        self.refused((0, 101, -101, 0, 0))
        self.refused((3, 5, 4, 101, 101))
        self.refused((61, 1, 0, 0, 0))
        self.refused((-1, -101, 101, 101, -101))

    def test_the_walk_is_neither_asked_nor_changed(self):
        calls = [ways(2, -3, 3, 0, 0), *all_heights(3), ways(61, 0, 0, 0, 0), *all_heights(3)]
        told = behind_begin(steps(4, -1, 7), *calls)
        self.assertEqual(told, [[3], [0, 2], [0], [4], [3], [10], [-1], [0], [4], [3], [10]])

    def test_all_small_walls(self):
        calls, want = [], []
        for n in range(6):
            walks = [heights(row) for row in itertools.product((1, -1), repeat=n)]
            for lo, hi, a, b in itertools.product(range(-2, 4), range(-3, 3), range(-3, 4), range(-4, 4)):
                calls.append(ways(n, lo, hi, a, b))
                fitting = [
                    reached for reached in walks
                    if a + reached[-1] == b and lo <= a + min(reached) and a + max(reached) <= hi
                ]
                want.append([0, len(fitting)])
        self.assertEqual(many(calls), want)


class Orders(unittest.TestCase):  # point 11
    def told(self, row):
        return behind_begin(steps(*row), *[orders(r) for r in range(len(row) + 1)])[1:]

    def by_words(self, row):
        return [[0, above, top] for above, top in orders_of(tuple(row))]

    def test_walk_of_no_steps(self):
        self.assertEqual(answers(line(BEGIN, orders(0), orders(1), orders(-1))), [1, 0, 3, 0, 1, 1, 1, -1, 1, -1])

    def test_by_hand(self):
        self.assertEqual(self.told([5]), [[0, 0, 0], [0, 1, 1]])
        self.assertEqual(self.told([-5]), [[0, 1, 1], [0, 0, 0]])
        self.assertEqual(self.told([0]), [[0, 1, 1], [0, 0, 0]])
        self.assertEqual(self.told([1, -1]), [[0, 1, 1], [0, 1, 1], [0, 0, 0]])
        self.assertEqual(self.told([1, 0]), [[0, 0, 0], [0, 1, 1], [0, 1, 1]])
        self.assertEqual(self.told([2, -1]), [[0, 0, 0], [0, 1, 1], [0, 1, 1]])

    def test_steps_that_are_alike_are_told_apart(self):
        self.assertEqual(self.told([3, 3, 3]), [[0, 0, 0], [0, 0, 0], [0, 0, 0], [0, 6, 6]])
        self.assertEqual(self.told([0, 0, 0, 0]), [[0, 24, 24]] + [[0, 0, 0]] * 4)
        self.assertEqual(self.told([1, 1, -1]), self.by_words([1, 1, -1]))
        self.assertEqual(self.told([1, 1, -1]), [[0, 0, 0], [0, 2, 2], [0, 2, 2], [0, 2, 2]])

    def test_8_steps(self):
        self.assertEqual(self.told([1] * 8), [[0, 0, 0]] * 8 + [[0, 40320, 40320]])
        self.assertEqual(self.told([-100] * 8), [[0, 40320, 40320]] + [[0, 0, 0]] * 8)
        for row in ([3, -1, 4, -1, -5, 9, -2, 6], [1, 1, 1, 1, -1, -1, -1, -1], [0, 2, -2, 0, 5, -5, 1, 0]):
            with self.subTest(row=row):
                self.assertEqual(self.told(row), self.by_words(row))

    def test_greatest_height_comes_more_than_once(self):
        for row in ([1, -1, 1, -1, 1, -1], [2, -1, -1, 0, 0], [-1, 1, 0], [2, 0, 0, -2]):
            with self.subTest(row=row):
                self.assertEqual(self.told(row), self.by_words(row))

    def test_r_outside_is_refused(self):
        for row in ([], [1], [1, -2, 3], [1, -1] * 4):
            for r in (-1, len(row) + 1, -2, -len(row) - 1, 64, LEAST, GREATEST):
                with self.subTest(row=row, r=r):
                    told = answers(line(BEGIN, steps(*row), orders(r), BEGIN))
                    self.assertEqual(told, [1, 0, 1, len(row), 1, -1, 1, 0])

    def test_more_than_8_steps_are_refused(self):
        for count in (9, 10, 64):
            for r in (0, 1, 8, 9, count, -1, count + 1):
                with self.subTest(count=count, r=r):
                    told = answers(line(BEGIN, steps(*[1] * count), orders(r), BEGIN))
                    self.assertEqual(told, [1, 0, 1, count, 1, -1, 1, 0])

    def test_the_order_of_the_walk_s_own_steps_is_one_among_all(self):
        row = [4, -3, 0, 2, -2]
        want = self.by_words(row)
        for order in itertools.permutations(row):
            self.assertEqual(self.told(order), want)

    def test_speaks_of_the_walk_as_it_is_then(self):
        row = [3, -1, 2, -2]
        calls = [begin_at(2), orders(1), turn(2), orders(1), steps(1), orders(1), BEGIN, orders(1)]
        told = behind_begin(steps(*row), *calls)
        self.assertEqual(told[2], self.by_words(row)[1])
        # begun at 2: 2, -2, 3, -1; turned about behind 1 step: 2, 2, -3, 1
        self.assertEqual(told[3:], [[1], self.by_words([2, 2, -3, 1])[1], [1], [0, 1, 1], [0], [-1]])

    def test_changes_nothing(self):
        row = [5, -2, 0, -2, 5]
        told = behind_begin(steps(*row), orders(2), orders(9), *all_heights(5))
        self.assertEqual(told[1:3], [self.by_words(row)[2], [-1]])
        self.assertEqual(told[3:], [[reached] for reached in heights(row)])

    def test_all_small_walks(self):
        for count in range(5):
            for row in itertools.product((-3, -1, 0, 1, 2), repeat=count):
                self.assertEqual(self.told(row), self.by_words(row), row)

    def test_every_order_is_counted_once(self):
        for row in ([7, -7, 7, -6, 0, 1, 1, -2], [100, -100, 99, -99, 98, -98, 1]):
            told = self.told(row)
            self.assertEqual([sum(column) for column in zip(*told)], [0] + [math.factorial(len(row))] * 2)


class Chance(unittest.TestCase):  # point 12
    def check(self, call, want):
        self.assertEqual(answers(line(BEGIN, chance(*call))), [1, 0, 3, 0, *want], call)

    def test_as_likely_to_win_as_to_lose(self):
        self.check((1, 1, 1, 2), (1, 2))
        self.check((7, 7, 4, 6), (2, 3))
        self.check((16, 16, 5, 15), (1, 3))
        self.check((16, 16, 1, 15), (1, 15))
        self.check((16, 16, 14, 15), (14, 15))

    def test_by_hand(self):
        self.check((2, 1, 1, 2), (2, 3))
        self.check((1, 2, 1, 2), (1, 3))
        self.check((1, 2, 1, 3), (1, 7))
        self.check((2, 1, 1, 3), (4, 7))
        self.check((2, 1, 2, 3), (6, 7))
        self.check((4, 2, 2, 3), (6, 7))
        self.check((3, 2, 2, 4), (9, 13))

    def test_none_of_the_coins(self):
        for p, q, n in ((1, 1, 1), (1, 1, 15), (5, 3, 4), (16, 1, 15), (1, 16, 15), (16, 16, 15)):
            self.check((p, q, 0, n), (0, 1))

    def test_all_of_the_coins(self):
        for p, q, n in ((1, 1, 1), (1, 1, 15), (5, 3, 4), (16, 1, 15), (1, 16, 15), (16, 16, 15)):
            self.check((p, q, n, n), (1, 1))

    def test_numbers_stay_exact(self):
        whole = (16 ** 15 - 1) // 15
        self.check((1, 16, 1, 15), (1, whole))
        self.check((1, 16, 14, 15), ((16 ** 14 - 1) // 15, whole))
        self.check((16, 1, 1, 15), (16 ** 14, whole))
        self.check((16, 1, 14, 15), (whole - 1, whole))
        self.check((16, 15, 1, 15), (16 ** 14, 16 ** 15 - 15 ** 15))

    def test_outside_is_refused(self):
        good = (3, 2, 2, 4)
        wrong = []
        for place in (0, 1):
            wrong.extend((place, number) for number in (0, 17, -1, -16, LEAST, GREATEST))
        wrong.extend((2, number) for number in (-1, 5, -2, 15, LEAST, GREATEST))
        wrong.extend((3, number) for number in (1, 0, 16, -1, 17, LEAST, GREATEST))
        for place, number in wrong:
            call = list(good)
            call[place] = number
            with self.subTest(call=call):
                self.assertEqual(answers(line(BEGIN, chance(*call), BEGIN)), [1, 0, 1, -1, 1, 0])

    def test_refused_at_the_edges(self):
        for call in (
            (1, 1, 0, 0), (1, 1, 16, 16), (1, 1, 0, 16), (1, 1, 2, 1), (1, 1, 16, 15), (1, 1, -1, 15), (1, 1, -1, 1),
            (0, 1, 0, 1), (1, 0, 1, 1), (17, 16, 15, 15), (16, 17, 0, 15), (1, 1, -1, -1), (0, 0, 0, 0),
        ):
            with self.subTest(call=call):
                self.assertEqual(answers(line(BEGIN, chance(*call), BEGIN)), [1, 0, 1, -1, 1, 0])

    def test_the_walk_is_neither_asked_nor_changed(self):
        told = behind_begin(steps(4, -1, 7), chance(1, 2, 1, 2), *all_heights(3), chance(0, 1, 1, 2), *all_heights(3))
        self.assertEqual(told, [[3], [0, 1, 3], [0], [4], [3], [10], [-1], [0], [4], [3], [10]])

    def test_every_game(self):
        games = [(p, q, n) for p in range(1, 17) for q in range(1, 17) for n in range(1, 16)]
        told = iter(many([chance(p, q, i, n) for p, q, n in games for i in range(n + 1)]))
        for p, q, n in games:
            likely = []
            for i in range(n + 1):
                first, part, whole = next(told)
                self.assertEqual((first, math.gcd(part, whole)), (0, 1), (p, q, i, n))
                likely.append(Fraction(part, whole))
            self.assertEqual((likely[0], likely[n]), (0, 1), (p, q, n))
            # One round on, it is as likely as before: there is just one row of chances for which that holds.
            for i in range(1, n):
                self.assertEqual((p + q) * likely[i], p * likely[i + 1] + q * likely[i - 1], (p, q, i, n))


if __name__ == "__main__":
    unittest.main()
