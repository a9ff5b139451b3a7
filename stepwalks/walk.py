"""Calls on one walk, handed in and answered as whole numbers: answers(calls)."""

BEGIN = 0
STEPS = 1
HEIGHT = 2
TOP = 3
ABOVE = 4
RETURNS = 5
TURN = 6
FROM = 7
STARTS = 8
WAYS = 9
ORDERS = 10
CHANCE = 11

MOST_STEPS = 64
LONGEST_STEP = 100
MOST_SINGLE_STEPS = 60
FARTHEST_PLACE = 100
MOST_STEPS_TO_ORDER = 8
MOST_CHANCES = 16
MOST_COINS = 15

WRONG_LENGTH = -1
STEP_TOO_LONG = -2
# Heights go down to -6400: a refusal nearer to 0 could be taken for one of them.
NO_SUCH_HEIGHT = -20000
HEIGHT_NOT_REACHED = -2
NO_SUCH_START = -1
WAYS_REFUSED = -1
ORDERS_REFUSED = -1
CHANCE_REFUSED = -1


class UnknownCall(ValueError):
    pass


def step_of(number):
    if number >= 128:
        return number - 256
    return number


def heights_of(row):
    reached = [0]
    for step in row:
        reached.append(reached[-1] + step)
    return reached


def begun_at(row, j):
    return row[j:] + row[:j]


def always_above(row):
    return all([reached > 0 for reached in heights_of(row)[1:]])


def one_step_on(counts, lo, hi):
    further = {}
    for place in counts:
        for beside in (place - 1, place + 1):
            if lo <= beside and beside <= hi:
                further[beside] = further.get(beside, 0) + counts[place]
    return further


def count_ways(n, lo, hi, a, b):
    if a < lo or a > hi:
        return 0
    counts = {a: 1}
    for step in range(n):
        counts = one_step_on(counts, lo, hi)
    return counts.get(b, 0)


def answer_ways(n, lo, hi, a, b):
    if n < 0 or n > MOST_SINGLE_STEPS:
        return [WAYS_REFUSED]
    if any([abs(place) > FARTHEST_PLACE for place in (lo, hi, a, b)]):
        return [WAYS_REFUSED]
    return [0, count_ways(n, lo, hi, a, b)]


# Orders are counted by the parts of a row, since a height depends only on which steps came, not on their order:
# 8 steps have 256 parts, but 40320 orders. A part is a number that has a bit for each of its steps.


def part_sums(row):
    sums = [0]
    for step in row:
        sums = sums + [total + step for total in sums]
    return sums


def parts_one_less(row):
    """For each part the parts that lack one of its steps: what came ahead of it, whichever step was last."""
    less = [[]]
    for step in row:
        bit = len(less)
        for part in range(bit):
            less.append([smaller + bit for smaller in less[part]] + [part])
    return less


def add_up(tallies):
    total = tallies[0]
    for tally in tallies[1:]:
        total = [x + y for x, y in zip(total, tally)]
    return total


def count_orders_above(row, r):
    sums = part_sums(row)
    less = parts_one_less(row)
    # A part's tally: how many of its orders are above behind just 0, 1, 2 .. numbers of steps.
    tallies = [[1]]
    for part in range(1, len(sums)):
        tally = add_up([tallies[smaller] for smaller in less[part]])
        if sums[part] > 0:
            tallies.append([0] + tally)
        else:
            tallies.append(tally + [0])
    return tallies[-1][r]


def count_one_sided(sums, less, is_above):
    """For each part, how many of its orders are above behind every number of steps from 1 on, or else behind none."""
    counts = [1]
    for part in range(1, len(sums)):
        if (sums[part] > 0) == is_above:
            counts.append(sum([counts[smaller] for smaller in less[part]]))
        else:
            counts.append(0)
    return counts


def count_orders_with_top(row, r):
    sums = part_sums(row)
    less = parts_one_less(row)
    # Seen back from the first top, all heights ahead of it are lower: the r steps before it, taken from the last
    # to the first, are always above. The steps behind it are never above it.
    before = count_one_sided(sums, less, True)
    behind = count_one_sided(sums, less, False)
    whole = len(sums) - 1
    return sum([before[part] * behind[whole - part] for part in range(whole + 1) if len(less[part]) == r])


def greatest_divisor(x, y):
    while y > 0:
        rest = x % y
        x = y
        y = rest
    return x


def chance_of_all(p, q, i, n):
    # With each coin the chance rises, for the next by q of p as much as for the one before; the n rises make 1.
    rises = [1]
    for coin in range(1, n):
        rises = [rise * p for rise in rises] + [rises[-1] * q]
    part = sum(rises[:i])
    whole = sum(rises)
    divisor = greatest_divisor(part, whole)
    return [part // divisor, whole // divisor]


def answer_chance(p, q, i, n):
    if p < 1 or p > MOST_CHANCES or q < 1 or q > MOST_CHANCES:
        return [CHANCE_REFUSED]
    if n < 1 or n > MOST_COINS or i < 0 or i > n:
        return [CHANCE_REFUSED]
    return [0] + chance_of_all(p, q, i, n)


class Walk:
    def __init__(self):
        self.row = []

    def begin(self):
        self.row = []
        return 0

    def take(self, n, numbers):
        if n < 0 or n > MOST_STEPS:
            return WRONG_LENGTH
        row = [step_of(number) for number in numbers]
        if any([abs(step) > LONGEST_STEP for step in row]):
            return STEP_TOO_LONG
        self.row = row
        return n

    def height(self, k):
        if k < 0 or k > len(self.row):
            return NO_SUCH_HEIGHT
        return heights_of(self.row)[k]

    def top(self):
        reached = heights_of(self.row)
        return reached.index(max(reached))

    def above(self):
        return len([reached for reached in heights_of(self.row)[1:] if reached > 0])

    def returns(self):
        return len([reached for reached in heights_of(self.row)[1:] if reached == 0])

    def turn(self, h):
        reached = heights_of(self.row)
        if h not in reached:
            return HEIGHT_NOT_REACHED
        k = reached.index(h)
        self.row = self.row[:k] + [-step for step in self.row[k:]]
        return k

    def begin_at(self, j):
        if j < 0 or j > len(self.row):
            return NO_SUCH_START
        self.row = begun_at(self.row, j)
        return 0

    def starts(self):
        return len([j for j in range(len(self.row)) if always_above(begun_at(self.row, j))])

    def orders(self, r):
        if len(self.row) > MOST_STEPS_TO_ORDER or r < 0 or r > len(self.row):
            return [ORDERS_REFUSED]
        return [0, count_orders_above(self.row, r), count_orders_with_top(self.row, r)]


def call_length(calls, at):
    if calls[at] == STEPS:
        # A length below 0 is refused; it must not lead back to calls that are answered already.
        return 2 + max(0, calls[at + 1])
    if calls[at] in (HEIGHT, TURN, FROM, ORDERS):
        return 2
    if calls[at] == WAYS:
        return 6
    if calls[at] == CHANCE:
        return 5
    return 1


def answer_call(walk, call, handed):
    if call == BEGIN:
        return [walk.begin()]
    if call == STEPS:
        return [walk.take(handed[0], handed[1:])]
    if call == HEIGHT:
        return [walk.height(handed[0])]
    if call == TOP:
        return [walk.top()]
    if call == ABOVE:
        return [walk.above()]
    if call == RETURNS:
        return [walk.returns()]
    if call == TURN:
        return [walk.turn(handed[0])]
    if call == FROM:
        return [walk.begin_at(handed[0])]
    if call == STARTS:
        return [walk.starts()]
    if call == WAYS:
        return answer_ways(handed[0], handed[1], handed[2], handed[3], handed[4])
    if call == ORDERS:
        return walk.orders(handed[0])
    if call == CHANCE:
        return answer_chance(handed[0], handed[1], handed[2], handed[3])
    raise UnknownCall(f"no call has the number {call}")


def answers(calls):
    walk = Walk()
    told = []
    at = 0
    while at < len(calls):
        end = at + call_length(calls, at)
        answer = answer_call(walk, calls[at], calls[at + 1:end])
        told.append(len(answer))
        told.extend(answer)
        at = end
    return told
