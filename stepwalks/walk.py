"""Calls on one walk, handed in and answered as whole numbers: answers(calls)."""

BEGIN = 0
STEPS = 1
HEIGHT = 2
TOP = 3
ABOVE = 4
RETURNS = 5

MOST_STEPS = 64
LONGEST_STEP = 100

WRONG_LENGTH = -1
STEP_TOO_LONG = -2
# Heights go down to -6400: a refusal nearer to 0 could be taken for one of them.
NO_SUCH_HEIGHT = -20000


class UnknownCall(ValueError):
    pass


def step_of(number):
    if number >= 128:
        return number - 256
    return number


def heights_of(row):
    reached = [0]
    for step in row:
        reached.append(reached[-1] + step)
    return reached


class Walk:
    def __init__(self):
        self.row = []

    def begin(self):
        self.row = []
        return 0

    def take(self, n, numbers):
        if n < 0 or n > MOST_STEPS:
            return WRONG_LENGTH
        row = [step_of(number) for number in numbers]
        if any([abs(step) > LONGEST_STEP for step in row]):
            return STEP_TOO_LONG
        self.row = row
        return n

    def height(self, k):
        if k < 0 or k > len(self.row):
            return NO_SUCH_HEIGHT
        return heights_of(self.row)[k]

    def top(self):
        reached = heights_of(self.row)
        return reached.index(max(reached))

    def above(self):
        return len([reached for reached in heights_of(self.row)[1:] if reached > 0])

    def returns(self):
        return len([reached for reached in heights_of(self.row)[1:] if reached == 0])


def call_length(calls, at):
    if calls[at] == STEPS:
        # A length below 0 is refused; it must not lead back to calls that are answered already.
        return 2 + max(0, calls[at + 1])
    if calls[at] == HEIGHT:
        return 2
    return 1


def answer_call(walk, call, handed):
    if call == BEGIN:
        return [walk.begin()]
    if call == STEPS:
        return [walk.take(handed[0], handed[1:])]
    if call == HEIGHT:
        return [walk.height(handed[0])]
    if call == TOP:
        return [walk.top()]
    if call == ABOVE:
        return [walk.above()]
    if call == RETURNS:
        return [walk.returns()]
    raise UnknownCall(f"no call has the number {call}")


def answers(calls):
    walk = Walk()
    told = []
    at = 0
    while at < len(calls):
        end = at + call_length(calls, at)
        answer = answer_call(walk, calls[at], calls[at + 1:end])
        told.append(len(answer))
        told.extend(answer)
        at = end
    return told
