"""Points 1 to 6 of the document, and what it says ahead of them and of the interface."""

import contextlib
import io
import itertools
import unittest

from lines import ABOVE, BEGIN, GREATEST, LEAST, RETURNS, TOP, all_heights, height, line, numbers, plain, steps
from stepwalks.walk import answers


class Begin(unittest.TestCase):  # point 1
    def test_answers_0(self):
        self.assertEqual(answers([0]), [1, 0])

    def test_walk_of_no_steps(self):
        self.assertEqual(plain(height(0), height(1), TOP, ABOVE, RETURNS), [0, -20000, 0, 0, 0])

    def test_again_behind_steps(self):
        told = plain(steps(5, -5, 3), BEGIN, height(0), height(1), TOP, ABOVE, RETURNS)
        self.assertEqual(told, [3, 0, 0, -20000, 0, 0, 0])

    def test_again_at_once(self):
        self.assertEqual(answers([0, 0, 0]), [1, 0, 1, 0, 1, 0])

    def test_steps_behind_second_begin(self):
        self.assertEqual(plain(steps(1, 1), BEGIN, steps(-4), height(1), height(2)), [2, 0, 1, -4, -20000])


class Steps(unittest.TestCase):  # point 2
    def test_answers_how_many(self):
        self.assertEqual(plain(steps(3, -2, 7)), [3])

    def test_no_steps(self):
        self.assertEqual(plain(steps(), *all_heights(1), TOP, ABOVE, RETURNS), [0, 0, -20000, 0, 0, 0])

    def test_no_steps_take_the_place_of_others(self):
        self.assertEqual(plain(steps(1, 2), steps(), height(0), height(1)), [2, 0, 0, -20000])

    def test_64_steps(self):
        row = [100] * 64
        told = plain(steps(*row), *all_heights(65), TOP, ABOVE, RETURNS)
        self.assertEqual(told, [64] + [100 * k for k in range(65)] + [-20000, 64, 64, 0])

    def test_64_steps_down(self):
        told = plain(steps(*[-100] * 64), height(64), TOP, ABOVE, RETURNS)
        self.assertEqual(told, [64, -6400, 0, 0, 0])

    def test_63_steps(self):
        self.assertEqual(plain(steps(*[1] * 63), height(63), height(64)), [63, 63, -20000])

    def test_65_steps_are_refused(self):
        told = plain(steps(4, 5), steps(*[1] * 65), *all_heights(2), height(3))
        self.assertEqual(told, [2, -1, 0, 4, 9, -20000])

    def test_wrong_length_is_refused_ahead_of_a_wrong_step(self):
        self.assertEqual(plain(numbers(*[127] * 65)), [-1])

    def test_length_below_0_is_refused(self):
        self.assertEqual(plain(steps(4), [1, -1], height(1), [1, LEAST], height(1)), [1, -1, 4, -1, 4])

    def test_every_number(self):
        for number in range(256):
            step = number if number < 128 else number - 256
            with self.subTest(number=number):
                if -100 <= step <= 100:
                    want = [1, 1, step, -20000]
                else:
                    want = [1, -2, 7, -20000]
                self.assertEqual(plain(steps(7), numbers(number), height(1), height(2)), want)

    def test_named_edges(self):
        self.assertEqual(plain(numbers(100), height(1)), [1, 100])
        self.assertEqual(plain(numbers(101), height(1)), [-2, -20000])
        self.assertEqual(plain(numbers(127), height(1)), [-2, -20000])
        self.assertEqual(plain(numbers(128), height(1)), [-2, -20000])
        self.assertEqual(plain(numbers(155), height(1)), [-2, -20000])
        self.assertEqual(plain(numbers(156), height(1)), [1, -100])
        self.assertEqual(plain(numbers(255), height(1)), [1, -1])
        self.assertEqual(plain(numbers(0), height(1)), [1, 0])

    def test_one_wrong_step_anywhere_changes_nothing(self):
        before = [2, -3, 4]
        for place, number in itertools.product((0, 1, 31, 62, 63), (101, 127, 128, 155)):
            row = [1] * 64
            row[place] = number
            with self.subTest(place=place, number=number):
                told = plain(steps(*before), numbers(*row), *all_heights(4), TOP, ABOVE, RETURNS)
                self.assertEqual(told, [3, -2, 0, 2, -1, 3, -20000, 3, 2, 0])

    def test_refused_on_a_new_walk(self):
        self.assertEqual(plain(numbers(1, 101), height(0), height(1)), [-2, 0, -20000])

    def test_refusal_is_its_number_alone(self):
        self.assertEqual(answers([0, 1, 1, 128]), [1, 0, 1, -2])

    def test_steps_that_look_like_calls(self):
        self.assertEqual(answers([0, 1, 4, 0, 1, 2, 3, 2, 4]), [1, 0, 1, 4, 1, 6])


class Height(unittest.TestCase):  # point 3
    def test_behind_each_number_of_steps(self):
        told = plain(steps(3, -5, 0, 10, -8), *all_heights(5))
        self.assertEqual(told, [5, 0, 3, -2, -2, 8, 0])

    def test_below_0_is_no_refusal(self):
        self.assertEqual(plain(steps(-1, -1), height(1), height(2)), [2, -1, -2])
        self.assertEqual(answers([0, 1, 1, 255, 2, 1, 2, 0]), [1, 0, 1, 1, 1, -1, 1, 0])

    def test_first_and_last(self):
        self.assertEqual(plain(steps(9, 9, 9), height(0), height(3)), [3, 0, 27])

    def test_outside_is_refused_and_changes_nothing(self):
        for k in (-1, -2, -3, 4, 5, 64, 65, -20000, LEAST, GREATEST):
            with self.subTest(k=k):
                told = plain(steps(2, -2, 6), height(k), *all_heights(3), TOP, ABOVE, RETURNS)
                self.assertEqual(told, [3, -20000, 0, 2, 0, 6, 3, 2, 1])

    def test_refusal_is_its_number_alone(self):
        self.assertEqual(answers([0, 2, -1, 2, 1, 2, 0]), [1, 0, 1, -20000, 1, -20000, 1, 0])


class Top(unittest.TestCase):  # point 4
    def test_ordinary(self):
        self.assertEqual(plain(steps(1, 2, -5, 4), TOP), [4, 2])

    def test_last(self):
        self.assertEqual(plain(steps(1, -1, 2), TOP), [3, 3])

    def test_first_of_several(self):
        self.assertEqual(plain(steps(-1, 3, -1, 1, 0, -2, 2), TOP), [7, 2])

    def test_greatest_height_is_0(self):
        self.assertEqual(plain(steps(-1, 1, 0), TOP), [3, 0])
        self.assertEqual(plain(steps(0, 0), TOP), [2, 0])
        self.assertEqual(plain(steps(-3, 2), TOP), [2, 0])

    def test_single_step(self):
        self.assertEqual(plain(steps(1), TOP, steps(0), TOP, steps(-1), TOP), [1, 1, 1, 0, 1, 0])


class Above(unittest.TestCase):  # point 5
    def test_ordinary(self):
        self.assertEqual(plain(steps(1, 2, -5, 4), ABOVE), [4, 3])

    def test_height_0_is_not_above(self):
        self.assertEqual(plain(steps(1, -1, 0, -1, 1, 1), ABOVE), [6, 2])
        self.assertEqual(plain(steps(0, 0, 0), ABOVE), [3, 0])

    def test_never(self):
        self.assertEqual(plain(steps(-1, -1, 1), ABOVE), [3, 0])

    def test_always(self):
        self.assertEqual(plain(steps(2, -1, 0), ABOVE), [3, 3])


class Returns(unittest.TestCase):  # point 6
    def test_ordinary(self):
        self.assertEqual(plain(steps(1, -1, -2, 2, 5), RETURNS), [5, 2])

    def test_beginning_is_not_counted(self):
        self.assertEqual(plain(steps(1, 1), RETURNS), [2, 0])

    def test_steps_of_0(self):
        self.assertEqual(plain(steps(0, 0, 0), RETURNS), [3, 3])
        self.assertEqual(plain(steps(4, 0, -4, 0), RETURNS), [4, 2])

    def test_passing_0_is_no_return(self):
        self.assertEqual(plain(steps(1, -2, 2), RETURNS), [3, 0])

    def test_last(self):
        self.assertEqual(plain(steps(-7, 3, 4), RETURNS), [3, 1])


class AllSmallWalks(unittest.TestCase):
    def test_as_the_words_say(self):
        for count in range(6):
            for row in itertools.product((-2, -1, 0, 1), repeat=count):
                heights = [sum(row[:k]) for k in range(count + 1)]
                top = min(k for k in range(count + 1) if all(heights[k] >= other for other in heights))
                above = sum(1 for k in range(1, count + 1) if heights[k] > 0)
                returns = sum(1 for k in range(1, count + 1) if heights[k] == 0)
                told = plain(steps(*row), *all_heights(count), TOP, ABOVE, RETURNS)
                self.assertEqual(told, [count] + heights + [top, above, returns], row)


class Interface(unittest.TestCase):
    LINE = line(
        BEGIN, steps(3, -4, 1, 0, 2), TOP, ABOVE, RETURNS, height(2), height(6), numbers(1, 127),
        height(5), steps(-1), height(1), BEGIN, height(1), steps(5, 5), TOP,
    )
    TOLD = [
        1, 0, 1, 5, 1, 1, 1, 2, 1, 2, 1, -1, 1, -20000, 1, -2,
        1, 2, 1, 1, 1, -1, 1, 0, 1, -20000, 1, 2, 1, 2,
    ]

    def test_empty(self):
        self.assertEqual(answers([]), [])

    def test_walk_is_kept_between_calls(self):
        self.assertEqual(answers(list(self.LINE)), self.TOLD)

    def test_asking_changes_nothing(self):
        ask = [TOP, ABOVE, RETURNS, height(1), height(3)]
        told = plain(steps(1, -1, 4), *ask, *ask)
        self.assertEqual(told, [3] + [3, 2, 1, 1, 4] * 2)

    def test_new_steps_take_the_place_of_the_old(self):
        self.assertEqual(plain(steps(1, 1, 1), steps(-6, 2), *all_heights(3)), [3, 2, 0, -6, -4, -20000])

    def test_list_handed_in_stays_as_it_was(self):
        calls = list(self.LINE)
        answers(calls)
        self.assertEqual(calls, self.LINE)

    def test_list_is_not_changed_for_a_while_either(self):
        class Watched(list):
            def refuse(self, *given):
                raise AssertionError("the list handed in was changed")

            append = extend = insert = pop = remove = clear = sort = reverse = refuse
            __setitem__ = __delitem__ = __iadd__ = __imul__ = refuse

        self.assertEqual(answers(Watched(self.LINE)), self.TOLD)

    def test_twice_the_same(self):
        calls = list(self.LINE)
        first = answers(calls)
        self.assertEqual(answers(calls), first)
        self.assertEqual(first, self.TOLD)

    def test_nothing_is_kept_from_one_time_to_the_next(self):
        first = answers(line(BEGIN, steps(5, 5)))
        first.append(99)
        self.assertEqual(answers(line(BEGIN, height(1), TOP)), [1, 0, 1, -20000, 1, 0])
        self.assertEqual(answers([]), [])

    def test_whole_numbers_in_a_list(self):
        told = answers(list(self.LINE))
        self.assertIs(type(told), list)
        self.assertEqual({type(number) for number in told}, {int})

    def test_400_calls(self):
        row = [(-1) ** k * (k % 101) for k in range(64)]
        self.assertEqual(len(answers(line(BEGIN, *[steps(*row)] * 399))), 800)
        self.assertEqual(plain(steps(*row), *[height(64)] * 398), [64] + [sum(row)] * 398)

    def test_prints_nothing(self):
        out, err = io.StringIO(), io.StringIO()
        with contextlib.redirect_stdout(out), contextlib.redirect_stderr(err):
            answers(list(self.LINE))
        self.assertEqual((out.getvalue(), err.getvalue()), ("", ""))

    def test_unknown_call_fails(self):
        for call in (-1, 12, LEAST, GREATEST):
            with self.subTest(call=call), self.assertRaises(ValueError):
                answers([0, call])


if __name__ == "__main__":
    unittest.main()
