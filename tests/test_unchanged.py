"""Point 7: an operation that returns an error changes nothing."""

import unittest

from processfronts.service import Service
from tests import plain
from tests.plain import GREATEST

REFUSED = {
    "an empty list": plain.process([]),
    "too few numbers": plain.process([2, 0, 0]),
    "numbers left over": plain.process([0, 0, 0]),
    "no construct": plain.process([6]),
    "a step above 5": plain.process([2, 0, 0, 0, 6]),
    "a loop of the empty process": plain.process([5, 1, 0, 0]),
    "a size above 11": plain.process([2] * 6 + [1] * 7),
    "step 6": plain.step(6, 1, 1),
    "time 101": plain.step(0, 101, 1),
    "cost 101": plain.step(0, 1, 101),
    "the greatest step": plain.step(GREATEST, GREATEST, GREATEST),
    "no rounds": plain.rounds(0),
    "4 rounds": plain.rounds(4),
    "the greatest number of rounds": plain.rounds(GREATEST),
    "no run": plain.judge([]),
    "a run with too few numbers": plain.judge([4, 0, 0]),
    "a run with numbers left over": plain.judge([1, 1]),
    "a run that is no construct": plain.judge([2, 6, 1]),
    "a hundred numbers that are no run": plain.judge([2] * 100),
}

STATE = [plain.amounts([9, 3, 2, 4, 7, 8], [1, 8, 1, 1, 5, 6]), plain.rounds(3),
         plain.process([4, 3, 0, 0, 0, 1, 2, 5, 0, 2, 1, 0, 3])]

# The run shows three rounds, and what follows shows the times and costs of all steps.
LOOKS = [plain.front(), plain.by(6), plain.soonest(), plain.worst(),
         plain.judge([4, 0, 1, 2, 2, 0, 2, 2, 1, 2, 0, 2, 2, 1, 0, 2, 0, 3])]
LOOKS += [call for number in range(6) for call in (plain.process([0, number]), plain.front())]
LOOKS += [plain.process([5, 0, 0, 1]), plain.worst()]


def ask(service, call):
    if call[0] == 0:
        return service.process(call[2:])
    if call[0] == 1:
        return service.step(*call[1:])
    if call[0] == 2:
        return service.rounds(*call[1:])
    return service.judge(call[2:])


def state_of(service):
    return list(service.constructs), list(service.times), list(service.costs), service.round_count


class RefusedTest(unittest.TestCase):
    def test_the_looks_show_the_whole_state(self):
        shown = plain.told(*STATE, *LOOKS)[-len(LOOKS):]
        self.assertEqual(shown[:5], [
            [2, 6, 10, 9, 3], [10, 6, 4, 0, 1, 2, 0, 2, 0, 3], [6, 10, 4, 0, 1, 2, 0, 2, 0, 3], [10, 12], [1, 10, 12]])
        self.assertEqual(shown[6:17:2], [[1, 9, 1], [1, 3, 8], [1, 2, 1], [1, 4, 1], [1, 7, 5], [1, 8, 6]])
        self.assertEqual(shown[17:], [[3], [27, 3]])

    def test_answers_after_a_refused_call_are_as_before(self):
        expected = plain.told(*STATE, *LOOKS)
        begun = plain.told(*LOOKS)
        for name, call in REFUSED.items():
            with self.subTest(name):
                self.assertEqual(plain.told(call), [[-1]])
                self.assertEqual(plain.told(call, *LOOKS), [[-1], *begun])
                shown = plain.told(*STATE, call, *LOOKS)
                kept = len(expected) - len(LOOKS)
                self.assertEqual(shown, [*expected[:kept], [-1], *expected[kept:]])

    def test_state_after_a_refused_call_is_as_before(self):
        for name, call in REFUSED.items():
            with self.subTest(name):
                service = Service()
                before = state_of(service)
                self.assertEqual(ask(service, call), [-1])
                self.assertEqual(state_of(service), before)
                service.step(2, 30, 40)
                service.process([5, 0, 2, 1])
                service.rounds(3)
                before = state_of(service)
                self.assertEqual(ask(service, call), [-1])
                self.assertEqual(state_of(service), before)

    def test_answers_after_a_time_below_all_are_as_before(self):
        expected = plain.told(*STATE, *LOOKS)
        kept = len(expected) - len(LOOKS)
        for time in (0, 1, 5):
            shown = plain.told(*STATE, plain.by(time), *LOOKS)
            self.assertEqual(shown, [*expected[:kept], [-6], *expected[kept:]])

    def test_state_after_a_time_below_all_is_as_before(self):
        service = Service()
        service.process([4, 0, 0, 5, 0, 1, 0, 2])
        service.step(1, 4, 8)
        service.rounds(3)
        before = state_of(service)
        for time in (0, 1, 2, 3):
            self.assertEqual(service.by(time), [-6])
            self.assertEqual(state_of(service), before)


class LooksTest(unittest.TestCase):
    """Operations that only tell something change nothing either."""

    def test_what_only_tells_changes_nothing(self):
        service = Service()
        service.process([5, 3, 0, 0, 0, 1, 0, 2])
        service.step(1, 0, 9)
        before = state_of(service)
        run = [2, 0, 0, 2, 0, 2, 0, 1]
        for turn in range(2):
            self.assertEqual(service.front(), [2, 0, 9, 1, 1])
            self.assertEqual(service.by(7), [1, 1, 0, 0])
            self.assertEqual(service.soonest(), [0, 9, 0, 1])
            self.assertEqual(service.worst(), [3, 19])
            self.assertEqual(service.judge(run), [1, 2, 11])
            self.assertEqual(service.judge([3, 0, 0, 0, 1]), [0])
            self.assertEqual(state_of(service), before)
        self.assertEqual(run, [2, 0, 0, 2, 0, 2, 0, 1])

    def test_a_run_that_is_judged_does_not_become_the_process(self):
        calls = [plain.process([3, 0, 0, 0, 1]), plain.judge([0, 1]), plain.judge([0, 2]), plain.judge([0, 0])]
        self.assertEqual(plain.told(*calls), [[3], [1, 1, 1], [0], [1, 1, 1]])


if __name__ == "__main__":
    unittest.main()
