"""What the document says of the whole program, with all calls mixed in one list."""

import ast
import contextlib
import copy
import io
import itertools
import pathlib
import unittest

from by_the_words import Told
from lines import (
    ABOVE, BEGIN, GREATEST, LEAST, RETURNS, STARTS, TOP, apart, begin_at, behind_begin, chance, height, line, numbers,
    orders, steps, turn, ways,
)
from stepwalks.walk import answers

LENGTHS = (5, 8, 3, 64, 0, 6, 9, 7, 1)
WIDTHS = (3, 1, 7, 201)

MAKERS = (
    lambda k: STARTS,
    lambda k: orders(k % 6 - 1),
    lambda k: height(k % 9 - 1),
    lambda k: turn(k % 5 - 1),
    lambda k: TOP,
    lambda k: chance(k % 17, k * 5 % 18, k % 8, k % 16),
    lambda k: ABOVE,
    lambda k: begin_at(k % 7 - 1),
    lambda k: RETURNS,
    lambda k: ways(k % 62, k % 7 - 6, k % 9, k % 3 - 1, k % 5 - 2),
    lambda k: turn(0),
    lambda k: orders(k % 4),
    lambda k: ways(k * 7 % 62, -100, 102 - k % 3, k % 11, k % 13),
    lambda k: numbers(*[(k * 31 + place * 17) % 256 for place in range(k % 4)]),
    lambda k: begin_at(1),
    lambda k: STARTS,
    lambda k: TOP,
)


def some_steps(k):
    width = WIDTHS[k % len(WIDTHS)]
    return steps(*[(k * 37 + place * place * 53 + place) % width - (width - 1) // 2
                   for place in range(LENGTHS[k % len(LENGTHS)])])


def mixed_calls(count):
    """So many calls, begin first: new steps now and then, and all else between."""
    made = [BEGIN]
    for k in range(1, count):
        if k % 97 == 0:
            made.append(BEGIN)
        elif k % 6 == 1:
            made.append(some_steps(k // 6))
        else:
            made.append(MAKERS[k % len(MAKERS)](k))
    return made


def by_words(calls):
    told = Told()
    return [told.call(call) for call in calls]


def as_handed_back(each):
    return [number for answer in each for number in [len(answer)] + answer]


MIXED = mixed_calls(400)
LINE = line(*MIXED)
WANT = by_words(MIXED)


class MixedCalls(unittest.TestCase):
    def test_by_hand(self):
        told = behind_begin(
            steps(1, -2, 3, 1), height(3), turn(-1), TOP, ABOVE, RETURNS, STARTS, orders(0), begin_at(1), height(1),
            ways(2, 0, 1, 0, 0), STARTS, chance(2, 1, 1, 2), turn(9), begin_at(9), ways(61, 0, 0, 0, 0), orders(9),
            chance(1, 1, 2, 1), height(9), numbers(128), height(4), TOP, BEGIN, orders(0), STARTS, turn(0), begin_at(0),
        )
        # Turned about behind 2 steps: 1, -2, -3, -1; begun at 1: -2, -3, -1, 1.
        self.assertEqual(told, [
            [4], [2], [2], [1], [1], [0], [0], [0, 18, 18], [0], [-2],
            [0, 1], [0], [0, 2, 3], [-2], [-1], [-1], [-1],
            [-1], [-20000], [-2], [-5], [0], [0], [0, 1, 1], [0], [0], [0],
        ])

    def test_400_calls_of_all_kinds(self):
        self.assertEqual(len(MIXED), 400)
        told = answers(list(LINE))
        for k, (call, answer, want) in enumerate(zip(MIXED, apart(told), WANT, strict=True)):
            self.assertEqual(answer, want, (k, call))
        self.assertEqual(told, as_handed_back(WANT))

    def test_the_400_hold_each_kind_refused_and_not(self):
        kinds = {(call[0], answer[0] in (-1, -2, -20000)) for call, answer in zip(MIXED, WANT) if call[0] != 2}
        kinds |= {(2, answer[0] == -20000) for call, answer in zip(MIXED, WANT) if call[0] == 2}
        refusing = (1, 2, 6, 7, 9, 10, 11)
        self.assertEqual(kinds, {(kind, False) for kind in range(12)} | {(kind, True) for kind in refusing})

    def test_longest_lists(self):
        row = [k % 3 - 1 for k in range(64)]
        self.assertEqual(behind_begin(*[steps(*row)] * 399), [[64]] * 399)
        hard = [steps(9, -8, 7, -6, 5, -4, 3, -2)] + [orders(4)] * 398
        self.assertEqual(behind_begin(*hard), by_words(hard))
        self.assertEqual(behind_begin(*[ways(60, -100, 100, 0, 0)] * 399), [[0, 118264581564861424]] * 399)
        self.assertEqual(behind_begin(steps(*[1] * 64), *[STARTS] * 398), [[64]] * 399)

    def test_any_two_calls_one_behind_the_other(self):
        each = [
            BEGIN, steps(1, -1, 2), numbers(127), height(2), height(7), TOP, ABOVE, RETURNS, turn(1), turn(50),
            begin_at(2), begin_at(-1), STARTS, ways(4, -1, 2, 0, 0), ways(4, -101, 2, 0, 0), orders(2), orders(5),
            chance(2, 3, 1, 4), chance(2, 3, 5, 4),
        ]
        look = [height(1), height(2), height(3), TOP, STARTS, orders(1)]
        for first, second in itertools.product(each, repeat=2):
            calls = [BEGIN, steps(2, -1, 0), first, second, *look]
            self.assertEqual(answers(line(*calls)), as_handed_back(by_words(calls)), (first, second))


class Counts(unittest.TestCase):
    def test_behind_the_first_number(self):
        self.assertEqual(answers([0, 9, 2, 0, 1, 0, 0]), [1, 0, 2, 0, 1])
        self.assertEqual(answers([0, 10, 0]), [1, 0, 3, 0, 1, 1])
        self.assertEqual(answers([0, 11, 1, 2, 1, 2]), [1, 0, 3, 0, 1, 3])
        self.assertEqual(answers([0, 6, 0, 7, 0, 8]), [1, 0, 1, 0, 1, 0, 1, 0])

    def test_a_refusal_is_its_number_alone(self):
        self.assertEqual(answers([0, 9, 61, 0, 1, 0, 0, 8]), [1, 0, 1, -1, 1, 0])
        self.assertEqual(answers([0, 10, 1, 8]), [1, 0, 1, -1, 1, 0])
        self.assertEqual(answers([0, 11, 0, 2, 1, 2, 8]), [1, 0, 1, -1, 1, 0])
        self.assertEqual(answers([0, 6, 1, 7, 1, 8]), [1, 0, 1, -2, 1, -1, 1, 0])

    def test_numbers_handed_over_are_no_calls(self):
        self.assertEqual(answers([0, 9, 9, 9, 9, 9, 9, 10, 10, 11, 11, 11, 11, 11]), [1, 0, 2, 0, 0, 1, -1, 3, 0, 1, 1])
        self.assertEqual(answers([0, 6, 6, 7, 7, 6, 0, 7, 0]), [1, 0, 1, -2, 1, -1, 1, 0, 1, 0])

    def test_extreme_numbers(self):
        for number in (LEAST, GREATEST):
            told = answers([0, 6, number, 7, number, 9] + [number] * 5 + [10, number, 11] + [number] * 4 + [2, number])
            self.assertEqual(told, [1, 0, 1, -2, 1, -1, 1, -1, 1, -1, 1, -1, 1, -20000])


class Kept(unittest.TestCase):
    def test_list_handed_in_stays_as_it_was(self):
        calls = list(LINE)
        answers(calls)
        self.assertEqual(calls, LINE)

    def test_list_is_not_changed_for_a_while_either(self):
        class Watched(list):
            def refuse(self, *given):
                raise AssertionError("the list handed in was changed")

            append = extend = insert = pop = remove = clear = sort = reverse = refuse
            __setitem__ = __delitem__ = __iadd__ = __imul__ = refuse

        self.assertEqual(answers(Watched(LINE)), as_handed_back(WANT))

    def test_twice_the_same(self):
        calls = list(LINE)
        first = answers(calls)
        kept = copy.copy(first)
        self.assertEqual(answers(calls), kept)
        first.clear()
        self.assertEqual(answers(calls), kept)

    def test_nothing_is_kept_from_one_time_to_the_next(self):
        answers(line(BEGIN, steps(5, 5), turn(5), begin_at(1), orders(1)))
        told = answers(line(BEGIN, STARTS, orders(0), orders(1), turn(5), begin_at(1), height(1)))
        self.assertEqual(apart(told), [[0], [0], [0, 1, 1], [-1], [-2], [-1], [-20000]])

    def test_nothing_is_kept_when_a_call_fails(self):
        with self.assertRaises(ValueError):
            answers(line(BEGIN, steps(5, 5), [99]))
        self.assertEqual(answers(line(BEGIN, STARTS, TOP)), [1, 0, 1, 0, 1, 0])

    def test_whole_numbers_in_a_list(self):
        told = answers(list(LINE))
        self.assertIs(type(told), list)
        self.assertEqual({type(number) for number in told}, {int})

    def test_prints_nothing(self):
        out, err = io.StringIO(), io.StringIO()
        with contextlib.redirect_stdout(out), contextlib.redirect_stderr(err):
            answers(list(LINE))
        self.assertEqual((out.getvalue(), err.getvalue()), ("", ""))

    def test_imports_nothing(self):
        path = pathlib.Path(__file__).resolve().parent.parent / "stepwalks" / "walk.py"
        nodes = ast.walk(ast.parse(path.read_text(encoding="ascii")))
        self.assertEqual([node for node in nodes if isinstance(node, (ast.Import, ast.ImportFrom))], [])


if __name__ == "__main__":
    unittest.main()
