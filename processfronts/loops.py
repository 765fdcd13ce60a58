"""Loops written out as the choices and sequences that their runs are.

What is worked out of a process is worked out of this: then a choice, a sequence
and a parallel process are all there is, and nothing else needs to know of rounds.
"""

from processfronts.notation import CHOICE, LOOP, SEQUENCE, has_parts


# A loop with one round is its first process, which stands last already. With
# each round more it is a choice between its first process and the sequence of
# this, the second process and the loop with one round less.
def add_loop(unrolled, first, second, rounds):
    for left in range(1, rounds):
        rest = len(unrolled) - 1
        unrolled.append((SEQUENCE, second, rest))
        unrolled.append((SEQUENCE, first, rest + 1))
        unrolled.append((CHOICE, first, rest + 2))


# A part that occurs in several rounds is there once, and its place is named
# several times: so loops within loops don't multiply what is written out.
def without_loops(constructs, rounds):
    unrolled = []
    places = []
    for construct in constructs:
        kind = construct[0]
        if has_parts(kind):
            first = places[construct[1]]
            second = places[construct[2]]
            if kind == LOOP:
                add_loop(unrolled, first, second, rounds)
            else:
                unrolled.append((kind, first, second))
        else:
            unrolled.append(construct)
        places.append(len(unrolled) - 1)
    return unrolled
