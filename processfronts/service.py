"""The service: one process, its steps' times and costs, and its rounds.

Each operation answers the list of its numbers. An error is its code alone.
"""

from processfronts.notation import EMPTY, STEP, constructs_of, has_loop_of_empty
from processfronts.pairs import front_of

LAST_STEP = 5
GREATEST_SIZE = 11
GREATEST_AMOUNT = 100
MOST_ROUNDS = 3


def has_unknown_step(constructs):
    for construct in constructs:
        if construct[0] == STEP and construct[1] > LAST_STEP:
            return True
    return False


def is_process(constructs):
    if len(constructs) > GREATEST_SIZE or has_unknown_step(constructs):
        return False
    return not has_loop_of_empty(constructs)


class Service:
    def __init__(self):
        self.constructs = [(EMPTY,)]
        self.times = [1] * (LAST_STEP + 1)
        self.costs = [1] * (LAST_STEP + 1)
        self.round_count = 2

    def process(self, numbers):
        constructs = constructs_of(numbers)
        if constructs is None or not is_process(constructs):
            return [-1]
        self.constructs = constructs
        return [len(constructs)]

    def step(self, step, time, cost):
        if step > LAST_STEP or time > GREATEST_AMOUNT or cost > GREATEST_AMOUNT:
            return [-1]
        self.times[step] = time
        self.costs[step] = cost
        return [0]

    def rounds(self, n):
        if n < 1 or n > MOST_ROUNDS:
            return [-1]
        self.round_count = n
        return [0]

    def front(self):
        pairs = front_of(self.constructs, self.times, self.costs)
        numbers = [len(pairs)]
        for pair in pairs:
            numbers.extend(pair)
        return numbers
