"""Processes as they are written: numbers in prefix notation.

A process is kept as the list of its constructs, each behind its parts: behind
its second process, and just behind its first process. So the whole process is
the last one, a walk from the beginning comes to both parts before it comes to
the construct, and no walk needs calls within one another. A step is the tuple
(0, step), the empty process is (1,), and every other construct is its number
and the places of its two processes in the list.
"""

STEP = 0
EMPTY = 1
SEQUENCE = 2
CHOICE = 3
PARALLEL = 4
LOOP = 5


def has_parts(kind):
    return kind != STEP and kind != EMPTY


def written_at(numbers, place):
    width = 1
    if numbers[place:place + 1] == [STEP]:
        width = 2
    own_numbers = tuple(numbers[place:place + width])
    if len(own_numbers) < width or own_numbers[0] > LOOP:
        return None
    return own_numbers


# Each construct's own numbers, in the order in which they are written; None if
# the numbers are not exactly one process. Limits of steps and sizes are left to
# the caller: not all that is written in this notation is held to them.
def written_constructs(numbers):
    written = []
    place = 0
    missing = 1
    while missing > 0:
        own_numbers = written_at(numbers, place)
        if own_numbers is None:
            return None
        written.append(own_numbers)
        place += len(own_numbers)
        if has_parts(own_numbers[0]):
            missing += 1
        else:
            missing -= 1
    if place < len(numbers):
        return None
    return written


def constructs_of(numbers):
    written = written_constructs(numbers)
    if written is None:
        return None
    constructs = []
    waiting = []
    for own_numbers in reversed(written):
        kind = own_numbers[0]
        if has_parts(kind):
            first = waiting.pop()
            second = waiting.pop()
            constructs.append((kind, first, second))
        else:
            constructs.append(own_numbers)
        waiting.append(len(constructs) - 1)
    return constructs


def is_empty_capable(kind, first, second):
    if kind == CHOICE:
        return first or second
    if kind == LOOP:
        return first
    return first and second


def has_loop_of_empty(constructs):
    capable = []
    for construct in constructs:
        kind = construct[0]
        if has_parts(kind):
            first = capable[construct[1]]
            second = capable[construct[2]]
            if kind == LOOP and first:
                return True
            capable.append(is_empty_capable(kind, first, second))
        else:
            capable.append(kind == EMPTY)
    return False
