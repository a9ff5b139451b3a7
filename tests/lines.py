"""Calls as the interface hands them in, and answers taken apart again."""

from stepwalks.walk import answers

BEGIN = [0]
TOP = [3]
ABOVE = [4]
RETURNS = [5]
STARTS = [8]

LEAST = -2147483648
GREATEST = 2147483647


def steps(*row):
    """The call steps with this walk; a step below 0 is handed in as the number 256 more."""
    return [1, len(row)] + [step % 256 for step in row]


def numbers(*row):
    """The call steps with these numbers as they are."""
    return [1, len(row)] + list(row)


def height(k):
    return [2, k]


def turn(h):
    return [6, h]


def begin_at(j):
    """The call from."""
    return [7, j]


def ways(n, lo, hi, a, b):
    return [9, n, lo, hi, a, b]


def orders(r):
    return [10, r]


def chance(p, q, i, n):
    return [11, p, q, i, n]


def all_heights(count):
    return [height(k) for k in range(count + 1)]


def line(*calls):
    return [number for call in calls for number in call]


def apart(told):
    """The answers one by one, each as the list of its numbers."""
    each = []
    at = 0
    while at < len(told):
        end = at + 1 + told[at]
        assert told[at] >= 1 and end <= len(told), told
        each.append(told[at + 1:end])
        at = end
    return each


def behind_begin(*calls):
    """What is answered to these calls behind begin, each as the list of its numbers."""
    each = apart(answers(line(BEGIN, *calls)))
    assert each[0] == [0] and len(each) == len(calls) + 1, each
    return each[1:]


def plain(*calls):
    """What is answered to these calls behind begin, where each answers one number."""
    each = behind_begin(*calls)
    assert all(len(answer) == 1 for answer in each), each
    return [answer[0] for answer in each]
