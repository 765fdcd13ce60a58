"""Processes as they are written: numbers in prefix notation.

A process is kept as the list of its constructs, in the order in which they are
written. Each is the tuple of its own numbers: (0, step) for a step, and the
construct's number alone for every other one. In this list a construct stands
ahead of its parts. So a walk from the end comes to both parts before it comes
to the construct, and no walk needs calls within one another.
"""

STEP = 0
EMPTY = 1
SEQUENCE = 2
CHOICE = 3
PARALLEL = 4
LOOP = 5


def has_parts(kind):
    return kind != STEP and kind != EMPTY


def construct_at(numbers, place):
    width = 1
    if numbers[place:place + 1] == [STEP]:
        width = 2
    construct = tuple(numbers[place:place + width])
    if len(construct) < width or construct[0] > LOOP:
        return None
    return construct


# Limits of steps and sizes are left to the caller: not all that is written in
# this notation is held to them.
def constructs_of(numbers):
    constructs = []
    place = 0
    missing = 1
    while missing > 0:
        construct = construct_at(numbers, place)
        if construct is None:
            return None
        constructs.append(construct)
        place += len(construct)
        if has_parts(construct[0]):
            missing += 1
        else:
            missing -= 1
    if place < len(numbers):
        return None
    return constructs


def is_empty_capable(kind, first, second):
    if kind == CHOICE:
        return first or second
    if kind == LOOP:
        return first
    return first and second


def has_loop_of_empty(constructs):
    capable = []
    for construct in reversed(constructs):
        kind = construct[0]
        if has_parts(kind):
            first = capable.pop()
            second = capable.pop()
            if kind == LOOP and first:
                return True
            capable.append(is_empty_capable(kind, first, second))
        else:
            capable.append(kind == EMPTY)
    return False
