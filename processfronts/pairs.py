"""Times and costs: the front of a process, its selected runs, and its worst case.

The processes here are without loops. A pair is the tuple (time, cost). A front
is a list of tuples, each a pair and the numbers of its selected run, ordered by
time in ascending order.
"""

from processfronts.notation import CHOICE, SEQUENCE, STEP, has_parts


def pair_of(entry):
    return entry[0]


# In the order of time, and of cost where times are the same, a pair is bettered
# or met by one ahead of it unless it is cheaper than the last one kept. Sorting
# leaves entries with the same pair in their order, so the first of them stays:
# what is handed in lists the one to be selected first.
def best_entries(entries):
    best = []
    for entry in sorted(entries, key=pair_of):
        if len(best) == 0 or entry[0][1] < best[-1][0][1]:
            best.append(entry)
    return best


def joint_pair(kind, first, second):
    if kind == SEQUENCE:
        time = first[0] + second[0]
    else:
        time = max(first[0], second[0])
    return (time, first[1] + second[1])


# Both fronts are ordered by time, so the combinations come by the least time of
# the first pair, and then of the second pair, as a run is selected among them.
def joint_entries(kind, first, second):
    entries = []
    for one in first:
        for other in second:
            pair = joint_pair(kind, one[0], other[0])
            entries.append((pair, [kind] + one[1] + other[1]))
    return entries


def front_of_parts(kind, first, second):
    if kind == CHOICE:
        return best_entries(first + second)
    return best_entries(joint_entries(kind, first, second))


def pair_of_leaf(construct, times, costs):
    if construct[0] == STEP:
        step = construct[1]
        return (times[step], costs[step])
    return (0, 0)


def front_of(constructs, times, costs):
    fronts = []
    for construct in constructs:
        kind = construct[0]
        if has_parts(kind):
            fronts.append(front_of_parts(kind, fronts[construct[1]], fronts[construct[2]]))
        else:
            pair = pair_of_leaf(construct, times, costs)
            fronts.append([(pair, list(construct))])
    return fronts[-1]


def worst_of_parts(kind, first, second):
    if kind == CHOICE:
        return (max(first[0], second[0]), max(first[1], second[1]))
    return joint_pair(kind, first, second)


def worst_of(constructs, times, costs):
    worst = []
    for construct in constructs:
        kind = construct[0]
        if has_parts(kind):
            worst.append(worst_of_parts(kind, worst[construct[1]], worst[construct[2]]))
        else:
            worst.append(pair_of_leaf(construct, times, costs))
    return worst[-1]
