"""The calls step and rounds: their edges, and what they set."""

import unittest

from tests import plain
from tests.plain import GREATEST


class StepTest(unittest.TestCase):
    def test_edges_of_the_step(self):
        for number in range(6):
            self.assertEqual(plain.told(plain.step(number, 1, 1)), [[0]])
        for number in (6, 7, 100, GREATEST):
            self.assertEqual(plain.told(plain.step(number, 1, 1)), [[-1]])

    def test_edges_of_the_time(self):
        for time, code in ((0, 0), (1, 0), (99, 0), (100, 0), (101, -1), (GREATEST, -1)):
            with self.subTest(time=time):
                self.assertEqual(plain.told(plain.step(0, time, 1)), [[code]])
                self.assertEqual(plain.told(plain.step(5, time, 100)), [[code]])

    def test_edges_of_the_cost(self):
        for cost, code in ((0, 0), (1, 0), (99, 0), (100, 0), (101, -1), (GREATEST, -1)):
            with self.subTest(cost=cost):
                self.assertEqual(plain.told(plain.step(0, 1, cost)), [[code]])
                self.assertEqual(plain.told(plain.step(5, 100, cost)), [[code]])

    def test_several_errors_are_one_refusal(self):
        self.assertEqual(plain.told(plain.step(6, 101, 101)), [[-1]])

    def test_time_and_cost_are_set(self):
        for number in range(6):
            for time, cost in ((0, 0), (0, 100), (100, 0), (100, 100), (3, 4)):
                with self.subTest(number=number, time=time, cost=cost):
                    calls = [plain.process([0, number]), plain.step(number, time, cost)]
                    self.assertEqual(plain.last_pairs(*calls), [(time, cost)])

    def test_only_this_step_is_set(self):
        for number in range(6):
            for other in range(6):
                if other != number:
                    calls = [plain.process([0, other]), plain.step(number, 50, 60)]
                    self.assertEqual(plain.last_pairs(*calls), [(1, 1)])

    def test_a_step_is_set_again(self):
        calls = [plain.process([0, 2]), plain.step(2, 9, 8), plain.step(2, 3, 7)]
        self.assertEqual(plain.last_pairs(*calls), [(3, 7)])


class RoundsTest(unittest.TestCase):
    def test_edges(self):
        for n, code in ((0, -1), (1, 0), (2, 0), (3, 0), (4, -1), (GREATEST, -1)):
            with self.subTest(n=n):
                self.assertEqual(plain.told(plain.rounds(n)), [[code]])

    def test_the_number_shows_in_worst(self):
        calls = [plain.process([5, 0, 0, 0, 1]), plain.step(0, 3, 5), plain.step(1, 2, 7)]
        for n, greatest in ((1, [3, 5]), (2, [8, 17]), (3, [13, 29])):
            self.assertEqual(plain.told(*calls, plain.rounds(n), plain.worst())[-1], greatest)

    def test_the_number_shows_in_judge(self):
        calls = [plain.process([5, 0, 0, 0, 1])]
        twice = [2, 0, 0, 2, 0, 1, 0, 0]
        thrice = [2, 0, 0, 2, 0, 1, *twice]
        looks = [plain.judge([0, 0]), plain.judge(twice), plain.judge(thrice)]
        for n, answers in ((1, [[1, 1, 1], [0], [0]]), (2, [[1, 1, 1], [1, 3, 3], [0]]),
                           (3, [[1, 1, 1], [1, 3, 3], [1, 5, 5]])):
            self.assertEqual(plain.told(*calls, plain.rounds(n), *looks)[2:], answers)

    def test_the_number_is_set_again(self):
        calls = [plain.process([5, 0, 0, 1]), plain.worst()]
        for n in (3, 1, 2, 3):
            calls += [plain.rounds(n), plain.worst()]
        self.assertEqual(plain.told(*calls), [
            [3], [2, 2], [0], [3, 3], [0], [1, 1], [0], [2, 2], [0], [3, 3]])

    def test_times_and_costs_and_process_are_not_changed(self):
        calls = [plain.process([0, 1]), plain.step(1, 5, 6)]
        for n in (1, 2, 3):
            self.assertEqual(plain.last_pairs(*calls, plain.rounds(n)), [(5, 6)])


if __name__ == "__main__":
    unittest.main()
