"""What the tests share: calls as lists, answers as lists, and all runs listed.

Processes are nested tuples here: (0, step), (1,), and (construct, first, second).
The runs are listed word by word as the document tells them, without a thought
for how many there are, so that the program is held against something plain.
"""

import itertools
import random

from processfronts.fronts import answers

STEP, EMPTY, SEQUENCE, CHOICE, PARALLEL, LOOP = range(6)
GREATEST = 4294967295

# Steps 0 and 1 are a choice of quick and dear or slow and cheap; step 2 comes between.
TIMES = [1, 5, 3, 0, 100, 2]
COSTS = [7, 2, 4, 3, 0, 100]
A, B, C = (STEP, 0), (STEP, 1), (STEP, 2)
NOTHING = (EMPTY,)

# Times and costs with which many runs have the same pair: each quicker step is dearer
# by the same amount, or times and costs are small, 0 or the same.
OFTEN_THE_SAME = [
    ([0, 1, 2, 3, 4, 5], [5, 4, 3, 2, 1, 0]),
    ([1, 2, 1, 2, 3, 3], [2, 1, 2, 1, 0, 0]),
    ([0, 2, 2, 0, 0, 0], [2, 1, 0, 0, 0, 0]),
    ([0, 0, 0, 0, 0, 0], [0, 0, 0, 0, 0, 0]),
]


def process(numbers):
    return [0, len(numbers), *numbers]


def step(number, time, cost):
    return [1, number, time, cost]


def rounds(n):
    return [2, n]


def front():
    return [3]


def by(time):
    return [4, time]


def soonest():
    return [5]


def worst():
    return [6]


def judge(numbers):
    return [7, len(numbers), *numbers]


def joined(calls):
    return list(itertools.chain.from_iterable(calls))


def told(*calls):
    """The answers of the calls, each as its own list, without the counts."""
    return split(answers(joined(calls)))


def split(numbers):
    parts = []
    place = 0
    while place < len(numbers):
        end = place + 1 + numbers[place]
        parts.append(numbers[place + 1:end])
        place = end
    return parts


def told_pairs(answer):
    """The pairs of an answer of front, of which the first number is their count."""
    pairs = list(zip(answer[1::2], answer[2::2]))
    if answer != [len(pairs), *joined(pairs)]:
        raise AssertionError(f"not an answer of front: {answer}")
    return pairs


def last_pairs(*calls):
    return told_pairs(told(*calls, front())[-1])


def answered(tree, looks, n=2, times=TIMES, costs=COSTS, at_once=12):
    """What these calls answer on this process, asked in as many lists as the limits ask for."""
    state = [amounts(times, costs), rounds(n), process(numbers_of(tree))]
    found = []
    for begin in range(0, len(looks), at_once):
        answers_told = told(*state, *looks[begin:begin + at_once])
        if answers_told[:8] != [[0]] * 7 + [[size_of(tree)]]:
            raise AssertionError(f"refused: {tree}, {answers_told[:8]}")
        found += answers_told[8:]
    return found


def numbers_of(tree):
    if tree[0] in (STEP, EMPTY):
        return list(tree)
    return [tree[0], *numbers_of(tree[1]), *numbers_of(tree[2])]


def size_of(tree):
    if tree[0] in (STEP, EMPTY):
        return 1
    return 1 + size_of(tree[1]) + size_of(tree[2])


def constructs_in(tree):
    if tree[0] in (STEP, EMPTY):
        return {tree[0]}
    return {tree[0]} | constructs_in(tree[1]) | constructs_in(tree[2])


def is_empty_capable(tree):
    if tree[0] in (STEP, EMPTY):
        return tree[0] == EMPTY
    if tree[0] == CHOICE:
        return is_empty_capable(tree[1]) or is_empty_capable(tree[2])
    if tree[0] == LOOP:
        return is_empty_capable(tree[1])
    return is_empty_capable(tree[1]) and is_empty_capable(tree[2])


def has_sound_loops(tree):
    if tree[0] in (STEP, EMPTY):
        return True
    if tree[0] == LOOP and is_empty_capable(tree[1]):
        return False
    return has_sound_loops(tree[1]) and has_sound_loops(tree[2])


def runs(tree, full, left=None):
    """All runs, where each loop that is entered has the full number of rounds.

    For a loop that has been entered already, left says how many rounds remain.
    """
    kind = tree[0]
    if kind in (STEP, EMPTY):
        return [tree]
    if kind == CHOICE:
        return runs(tree[1], full) + runs(tree[2], full)
    firsts = runs(tree[1], full)
    seconds = runs(tree[2], full)
    if kind != LOOP:
        return [(kind, one, other) for one in firsts for other in seconds]
    left = full if left is None else left
    if left == 1:
        return firsts
    again = runs(tree, full, left - 1)
    return firsts + [
        (SEQUENCE, one, (SEQUENCE, other, rest))
        for one in firsts for other in seconds for rest in again]


def time_and_cost(run, times, costs):
    if run[0] == STEP:
        return times[run[1]], costs[run[1]]
    if run[0] == EMPTY:
        return 0, 0
    return together(run[0], time_and_cost(run[1], times, costs), time_and_cost(run[2], times, costs))


def together(kind, first, second):
    if kind == SEQUENCE:
        return first[0] + second[0], first[1] + second[1]
    return max(first[0], second[0]), first[1] + second[1]


def run_pairs(tree, full, times, costs):
    """The time and cost of each run, each pair once."""
    return sorted({time_and_cost(run, times, costs) for run in runs(tree, full)})


def plain_front(pairs):
    return [pair for pair in pairs if not any(
        other != pair and other[0] <= pair[0] and other[1] <= pair[1] for other in pairs)]


def selected_run(tree, pair, n, times, costs):
    """The selected run of a pair of the front, word by word as the document tells it."""
    kind = tree[0]
    if kind in (STEP, EMPTY):
        return tree
    firsts = plain_front(run_pairs(tree[1], n, times, costs))
    if kind == LOOP and pair not in firsts:
        raise AssertionError(f"a longer run of a loop on the front: {tree}, {pair}")
    if kind in (CHOICE, LOOP):
        return selected_run(tree[1] if pair in firsts else tree[2], pair, n, times, costs)
    seconds = plain_front(run_pairs(tree[2], n, times, costs))
    fitting = [(one, other) for one in firsts for other in seconds if together(kind, one, other) == pair]
    one, other = min(fitting, key=lambda both: (both[0][0], both[1][0]))
    return (kind, selected_run(tree[1], one, n, times, costs), selected_run(tree[2], other, n, times, costs))


def trees(size, leaves):
    """All processes of this size over these leaves that the document allows."""
    if size == 1:
        return list(leaves)
    made = []
    for first_size in range(1, size - 1, 2):
        pairs = itertools.product(trees(first_size, leaves), trees(size - 1 - first_size, leaves))
        for first, second in pairs:
            made.extend((kind, first, second) for kind in (SEQUENCE, CHOICE, PARALLEL, LOOP))
    return [tree for tree in made if has_sound_loops(tree)]


def amounts(times, costs):
    """The calls that set the times and costs of the steps from 0 on."""
    return joined(step(number, *both) for number, both in enumerate(zip(times, costs)))


def shuffled_tree(chance, size):
    """Some process of this size that the document allows."""
    if size == 1:
        return chance.choice([(STEP, number) for number in range(6)] + [NOTHING])
    while True:
        first_size = chance.randrange(1, size - 1, 2)
        kind = chance.choice([SEQUENCE, CHOICE, CHOICE, PARALLEL, LOOP])
        tree = (kind, shuffled_tree(chance, first_size), shuffled_tree(chance, size - 1 - first_size))
        if has_sound_loops(tree):
            return tree


def count_of_runs(tree, full, left):
    if tree[0] in (STEP, EMPTY):
        return 1
    first = count_of_runs(tree[1], full, full)
    second = count_of_runs(tree[2], full, full)
    if tree[0] == CHOICE:
        return first + second
    if tree[0] != LOOP:
        return first * second
    if left == 1:
        return first
    return first + first * second * count_of_runs(tree, full, left - 1)


def larger_trees(wanted=300):
    """Processes of sizes 7 to 11, with rounds, that have several runs, but few enough to list."""
    chance = random.Random(20261119)
    made = []
    while len(made) < wanted:
        tree = shuffled_tree(chance, chance.choice([7, 9, 11]))
        n = chance.choice([1, 2, 3])
        if 8 <= count_of_runs(tree, n, n) <= 2000:
            made.append((tree, n))
    return made
