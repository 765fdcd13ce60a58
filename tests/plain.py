"""What the tests share: calls as lists, answers as lists, and all runs listed.

Processes are nested tuples here: (0, step), (1,), and (construct, first, second).
The runs are listed word by word as the document tells them, without a thought
for how many there are, so that the program is held against something plain.
"""

import itertools

from processfronts.fronts import answers

STEP, EMPTY, SEQUENCE, CHOICE, PARALLEL, LOOP = range(6)


def process(numbers):
    return [0, len(numbers), *numbers]


def step(number, time, cost):
    return [1, number, time, cost]


def rounds(n):
    return [2, n]


def front():
    return [3]


def joined(calls):
    return list(itertools.chain.from_iterable(calls))


def told(*calls):
    """The answers of the calls, each as its own list, without the counts."""
    return split(answers(joined(calls)))


def split(numbers):
    parts = []
    place = 0
    while place < len(numbers):
        end = place + 1 + numbers[place]
        parts.append(numbers[place + 1:end])
        place = end
    return parts


def told_pairs(answer):
    """The pairs of an answer of front, of which the first number is their count."""
    pairs = list(zip(answer[1::2], answer[2::2]))
    if answer != [len(pairs), *joined(pairs)]:
        raise AssertionError(f"not an answer of front: {answer}")
    return pairs


def last_pairs(*calls):
    return told_pairs(told(*calls, front())[-1])


def numbers_of(tree):
    if tree[0] in (STEP, EMPTY):
        return list(tree)
    return [tree[0], *numbers_of(tree[1]), *numbers_of(tree[2])]


def size_of(tree):
    if tree[0] in (STEP, EMPTY):
        return 1
    return 1 + size_of(tree[1]) + size_of(tree[2])


def constructs_in(tree):
    if tree[0] in (STEP, EMPTY):
        return {tree[0]}
    return {tree[0]} | constructs_in(tree[1]) | constructs_in(tree[2])


def is_empty_capable(tree):
    if tree[0] in (STEP, EMPTY):
        return tree[0] == EMPTY
    if tree[0] == CHOICE:
        return is_empty_capable(tree[1]) or is_empty_capable(tree[2])
    if tree[0] == LOOP:
        return is_empty_capable(tree[1])
    return is_empty_capable(tree[1]) and is_empty_capable(tree[2])


def has_sound_loops(tree):
    if tree[0] in (STEP, EMPTY):
        return True
    if tree[0] == LOOP and is_empty_capable(tree[1]):
        return False
    return has_sound_loops(tree[1]) and has_sound_loops(tree[2])


def runs(tree, full, left=None):
    """All runs, where each loop that is entered has the full number of rounds.

    For a loop that has been entered already, left says how many rounds remain.
    """
    kind = tree[0]
    if kind in (STEP, EMPTY):
        return [tree]
    if kind == CHOICE:
        return runs(tree[1], full) + runs(tree[2], full)
    firsts = runs(tree[1], full)
    seconds = runs(tree[2], full)
    if kind != LOOP:
        return [(kind, one, other) for one in firsts for other in seconds]
    left = full if left is None else left
    if left == 1:
        return firsts
    again = runs(tree, full, left - 1)
    return firsts + [
        (SEQUENCE, one, (SEQUENCE, other, rest))
        for one in firsts for other in seconds for rest in again]


def time_and_cost(run, times, costs):
    if run[0] == STEP:
        return times[run[1]], costs[run[1]]
    if run[0] == EMPTY:
        return 0, 0
    first = time_and_cost(run[1], times, costs)
    second = time_and_cost(run[2], times, costs)
    if run[0] == SEQUENCE:
        return first[0] + second[0], first[1] + second[1]
    return max(first[0], second[0]), first[1] + second[1]


def run_pairs(tree, full, times, costs):
    """The time and cost of each run, each pair once."""
    return sorted({time_and_cost(run, times, costs) for run in runs(tree, full)})


def plain_front(pairs):
    return [pair for pair in pairs if not any(
        other != pair and other[0] <= pair[0] and other[1] <= pair[1] for other in pairs)]


def trees(size, leaves):
    """All processes of this size over these leaves that the document allows."""
    if size == 1:
        return list(leaves)
    made = []
    for first_size in range(1, size - 1, 2):
        pairs = itertools.product(trees(first_size, leaves), trees(size - 1 - first_size, leaves))
        for first, second in pairs:
            made.extend((kind, first, second) for kind in (SEQUENCE, CHOICE, PARALLEL, LOOP))
    return [tree for tree in made if has_sound_loops(tree)]


def amounts(times, costs):
    """The calls that set the times and costs of the steps from 0 on."""
    return joined(step(number, *both) for number, both in enumerate(zip(times, costs)))
