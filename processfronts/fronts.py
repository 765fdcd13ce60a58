"""The calls on one service, written as one list, and their answers as another."""

from processfronts.service import Service

CALL_PROCESS = 0
CALL_STEP = 1
CALL_ROUNDS = 2
CALL_FRONT = 3


class UnknownCall(ValueError):
    pass


def place_after(calls, place):
    call = calls[place]
    if call == CALL_PROCESS:
        return place + 2 + calls[place + 1]
    if call == CALL_STEP:
        return place + 4
    if call == CALL_ROUNDS:
        return place + 2
    if call == CALL_FRONT:
        return place + 1
    raise UnknownCall(f"no such call: {call}")


def answer_of(service, call, handed):
    if call == CALL_PROCESS:
        return service.process(handed[1:])
    if call == CALL_STEP:
        return service.step(handed[0], handed[1], handed[2])
    if call == CALL_ROUNDS:
        return service.rounds(handed[0])
    return service.front()


def answers(calls):
    service = Service()
    told = []
    place = 0
    while place < len(calls):
        after = place_after(calls, place)
        numbers = answer_of(service, calls[place], calls[place + 1:after])
        told.append(len(numbers))
        told.extend(numbers)
        place = after
    return told
