"""The front of a process: its pairs of time and cost that no run betters.

A front is a list of pairs (time, cost), ordered by time in ascending order.
"""

from processfronts.notation import CHOICE, LOOP, SEQUENCE, STEP, has_parts


# In the order of time, and of cost where times are the same, a pair is bettered
# or met by one ahead of it unless it is cheaper than the last one kept.
def best_pairs(pairs):
    best = []
    for pair in sorted(pairs):
        if len(best) == 0 or pair[1] < best[-1][1]:
            best.append(pair)
    return best


def joint_time(kind, first, second):
    if kind == SEQUENCE:
        return first + second
    return max(first, second)


def joint_pairs(kind, first, second):
    pairs = []
    for one in first:
        for other in second:
            time = joint_time(kind, one[0], other[0])
            pairs.append((time, one[1] + other[1]))
    return pairs


def front_of_parts(kind, first, second):
    # Every run of a loop starts with a run of its first process, and what
    # follows adds no time or cost below 0. So no run betters those that stop
    # after the first process, whatever the number of rounds is.
    if kind == LOOP:
        return first
    if kind == CHOICE:
        return best_pairs(first + second)
    return best_pairs(joint_pairs(kind, first, second))


def front_of_leaf(construct, times, costs):
    if construct[0] == STEP:
        step = construct[1]
        return [(times[step], costs[step])]
    return [(0, 0)]


def front_of(constructs, times, costs):
    fronts = []
    for construct in reversed(constructs):
        if has_parts(construct[0]):
            first = fronts.pop()
            second = fronts.pop()
            fronts.append(front_of_parts(construct[0], first, second))
        else:
            fronts.append(front_of_leaf(construct, times, costs))
    return fronts.pop()
