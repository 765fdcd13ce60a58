"""Point 7: an operation that returns an error changes nothing."""

import unittest

from processfronts.service import Service
from tests import plain

GREATEST = 4294967295

REFUSED = {
    "an empty list": plain.process([]),
    "too few numbers": plain.process([2, 0, 0]),
    "numbers left over": plain.process([0, 0, 0]),
    "no construct": plain.process([6]),
    "a step above 5": plain.process([2, 0, 0, 0, 6]),
    "a loop of the empty process": plain.process([5, 1, 0, 0]),
    "a size above 11": plain.process([2] * 6 + [1] * 7),
    "step 6": plain.step(6, 1, 1),
    "time 101": plain.step(0, 101, 1),
    "cost 101": plain.step(0, 1, 101),
    "the greatest step": plain.step(GREATEST, GREATEST, GREATEST),
    "no rounds": plain.rounds(0),
    "4 rounds": plain.rounds(4),
    "the greatest number of rounds": plain.rounds(GREATEST),
}

STATE = [plain.amounts([9, 3, 2, 4, 7, 8], [1, 8, 1, 1, 5, 6]), plain.rounds(3),
         plain.process([4, 3, 0, 0, 0, 1, 2, 5, 0, 2, 1, 0, 3])]

LOOKS = [plain.front()] + [
    call for number in range(6) for call in (plain.process([0, number]), plain.front())]


def ask(service, call):
    if call[0] == 0:
        return service.process(call[2:])
    if call[0] == 1:
        return service.step(*call[1:])
    return service.rounds(*call[1:])


def state_of(service):
    return list(service.constructs), list(service.times), list(service.costs), service.round_count


class RefusedTest(unittest.TestCase):
    def test_answers_after_a_refused_call_are_as_before(self):
        expected = plain.told(*STATE, *LOOKS)
        begun = plain.told(*LOOKS)
        for name, call in REFUSED.items():
            with self.subTest(name):
                self.assertEqual(plain.told(call), [[-1]])
                self.assertEqual(plain.told(call, *LOOKS), [[-1], *begun])
                shown = plain.told(*STATE, call, *LOOKS)
                kept = len(expected) - len(LOOKS)
                self.assertEqual(shown, [*expected[:kept], [-1], *expected[kept:]])

    def test_state_after_a_refused_call_is_as_before(self):
        for name, call in REFUSED.items():
            with self.subTest(name):
                service = Service()
                before = state_of(service)
                self.assertEqual(ask(service, call), [-1])
                self.assertEqual(state_of(service), before)
                service.step(2, 30, 40)
                service.process([5, 0, 2, 1])
                service.rounds(3)
                before = state_of(service)
                self.assertEqual(ask(service, call), [-1])
                self.assertEqual(state_of(service), before)

    def test_front_changes_nothing(self):
        service = Service()
        service.process([3, 0, 0, 0, 1])
        service.step(1, 0, 9)
        before = state_of(service)
        self.assertEqual(service.front(), service.front())
        self.assertEqual(state_of(service), before)


if __name__ == "__main__":
    unittest.main()
