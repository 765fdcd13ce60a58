"""The calls on one service, written as one list, and their answers as another."""

from processfronts.service import Service

CALL_PROCESS = 0
CALL_STEP = 1
CALL_ROUNDS = 2
CALL_FRONT = 3
CALL_BY = 4
CALL_SOONEST = 5
CALL_WORST = 6
CALL_JUDGE = 7


def place_after(calls, place):
    call = calls[place]
    if call == CALL_PROCESS or call == CALL_JUDGE:
        return place + 2 + calls[place + 1]
    if call == CALL_STEP:
        return place + 4
    if call == CALL_ROUNDS or call == CALL_BY:
        return place + 2
    return place + 1


def answer_of(service, call, handed):
    if call == CALL_PROCESS:
        return service.process(handed[1:])
    if call == CALL_STEP:
        return service.step(handed[0], handed[1], handed[2])
    if call == CALL_ROUNDS:
        return service.rounds(handed[0])
    if call == CALL_FRONT:
        return service.front()
    if call == CALL_BY:
        return service.by(handed[0])
    if call == CALL_SOONEST:
        return service.soonest()
    if call == CALL_WORST:
        return service.worst()
    return service.judge(handed[1:])


def answers(calls):
    service = Service()
    told = []
    place = 0
    while place < len(calls):
        after = place_after(calls, place)
        numbers = answer_of(service, calls[place], calls[place + 1:after])
        told.append(len(numbers))
        told.extend(numbers)
        place = after
    return told
