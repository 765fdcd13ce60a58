"""The service: one process, its steps' times and costs, and its rounds.

Each operation answers the list of its numbers. An error is its code alone.
"""

from processfronts.loops import without_loops
from processfronts.notation import EMPTY, STEP, constructs_of, has_loop_of_empty
from processfronts.pairs import front_of, worst_of
from processfronts.runs import is_run

LAST_STEP = 5
GREATEST_SIZE = 11
GREATEST_AMOUNT = 100
MOST_ROUNDS = 3


def has_unknown_step(constructs):
    for construct in constructs:
        if construct[0] == STEP and construct[1] > LAST_STEP:
            return True
    return False


def is_process(constructs):
    if len(constructs) > GREATEST_SIZE or has_unknown_step(constructs):
        return False
    return not has_loop_of_empty(constructs)


class Service:
    def __init__(self):
        self.constructs = [(EMPTY,)]
        self.times = [1] * (LAST_STEP + 1)
        self.costs = [1] * (LAST_STEP + 1)
        self.round_count = 2

    def process(self, numbers):
        constructs = constructs_of(numbers)
        if constructs is None or not is_process(constructs):
            return [-1]
        self.constructs = constructs
        return [len(constructs)]

    def step(self, step, time, cost):
        if step > LAST_STEP or time > GREATEST_AMOUNT or cost > GREATEST_AMOUNT:
            return [-1]
        self.times[step] = time
        self.costs[step] = cost
        return [0]

    def rounds(self, n):
        if n < 1 or n > MOST_ROUNDS:
            return [-1]
        self.round_count = n
        return [0]

    def unrolled(self):
        return without_loops(self.constructs, self.round_count)

    def selected_runs(self):
        return front_of(self.unrolled(), self.times, self.costs)

    def front(self):
        entries = self.selected_runs()
        numbers = [len(entries)]
        for entry in entries:
            numbers.extend(entry[0])
        return numbers

    # The costs of a front decrease: the last pair within the time is the cheapest.
    def by(self, time):
        within = [entry for entry in self.selected_runs() if entry[0][0] <= time]
        if len(within) == 0:
            return [-6]
        pair = within[-1][0]
        return [pair[1], pair[0]] + within[-1][1]

    def soonest(self):
        entry = self.selected_runs()[0]
        return list(entry[0]) + entry[1]

    def worst(self):
        return list(worst_of(self.unrolled(), self.times, self.costs))

    # In a run nothing is left to choose, so its worst case is its time and cost.
    def judge(self, numbers):
        run = constructs_of(numbers)
        if run is None:
            return [-1]
        if not is_run(run, self.unrolled()):
            return [0]
        return [1] + list(worst_of(run, self.times, self.costs))
