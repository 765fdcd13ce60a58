"""The call by: which pair it takes, what it tells of it, and when there is none; point 2."""

import unittest

from tests import plain
from tests.plain import A, B, C, CHOICE, COSTS, GREATEST, LOOP, NOTHING, PARALLEL, SEQUENCE, STEP, TIMES

# Its front is (1, 7), (3, 4) and (5, 2).
THREE = (CHOICE, A, (CHOICE, B, C))


def by(tree, time, n=2, times=TIMES, costs=COSTS):
    return plain.answered(tree, [plain.by(time)], n, times, costs)[0]


class TakenPairTest(unittest.TestCase):
    def test_a_time_that_is_just_a_pair_s(self):
        self.assertEqual(by(THREE, 1), [7, 1, 0, 0])
        self.assertEqual(by(THREE, 3), [4, 3, 0, 2])
        self.assertEqual(by(THREE, 5), [2, 5, 0, 1])

    def test_a_time_between_two_pairs(self):
        self.assertEqual(by(THREE, 2), [7, 1, 0, 0])
        self.assertEqual(by(THREE, 4), [4, 3, 0, 2])

    def test_a_time_above_all(self):
        for time in (6, 100, 1000, GREATEST):
            self.assertEqual(by(THREE, time), [2, 5, 0, 1])

    def test_a_time_below_all(self):
        self.assertEqual(by(THREE, 0), [-6])
        self.assertEqual(by(C, 2), [-6])
        self.assertEqual(by((SEQUENCE, A, B), 5), [-6])
        self.assertEqual(by((STEP, 4), 99), [-6])

    def test_time_0(self):
        self.assertEqual(by(NOTHING, 0), [0, 0, 1])
        self.assertEqual(by((STEP, 3), 0), [3, 0, 0, 3])
        self.assertEqual(by((CHOICE, A, NOTHING), 0), [0, 0, 1])
        self.assertEqual(by((CHOICE, A, (STEP, 3)), 0), [3, 0, 0, 3])
        self.assertEqual(by(A, 0), [-6])

    def test_the_greatest_time(self):
        self.assertEqual(by(NOTHING, GREATEST), [0, 0, 1])
        self.assertEqual(by((STEP, 4), GREATEST), [0, 100, 0, 4])

    def test_a_pair_that_a_cheaper_and_quicker_one_betters_is_never_taken(self):
        times, costs = [1, 4, 6, 1, 1, 1], [7, 2, 3, 1, 1, 1]
        for time in (4, 5, 6, 7):
            self.assertEqual(by(THREE, time, 2, times, costs), [2, 4, 0, 1])

    def test_cost_then_time_then_run(self):
        self.assertEqual(by((SEQUENCE, A, B), 6), [9, 6, 2, 0, 0, 0, 1])
        self.assertEqual(by((PARALLEL, A, C), 3), [11, 3, 4, 0, 0, 0, 2])

    def test_by_follows_the_state(self):
        calls = [plain.process([3, 0, 0, 0, 1]), plain.by(1), plain.step(1, 1, 0), plain.by(1),
                 plain.step(1, 0, 9), plain.by(1), plain.by(0), plain.process([0, 5]), plain.by(1), plain.by(0)]
        self.assertEqual(plain.told(*calls), [
            [3], [1, 1, 0, 0], [0], [0, 1, 0, 1], [0], [1, 1, 0, 0], [9, 0, 0, 1], [1], [1, 1, 0, 5], [-6]])

    def test_at_the_beginning_of_a_list(self):
        self.assertEqual(plain.told(plain.by(0), plain.by(GREATEST)), [[0, 0, 1], [0, 0, 1]])

    def test_more_rounds_never_make_it_dearer(self):
        tree = (LOOP, (CHOICE, A, B), C)
        for n in (1, 2, 3):
            self.assertEqual(by(tree, 0, n), [-6])
            self.assertEqual(by(tree, 4, n), [7, 1, 0, 0])
            self.assertEqual(by(tree, 5, n), [2, 5, 0, 1])


class ListingTest(unittest.TestCase):
    """Point 2, and the answer itself, against all runs of the process."""

    def check(self, tree, n, times, costs):
        listed = plain.run_pairs(tree, n, times, costs)
        moments = sorted({max(pair[0] + more, 0) for pair in listed for more in (-1, 0, 1)})
        answers = plain.answered(tree, [plain.by(time) for time in moments], n, times, costs)
        self.assertEqual(len(answers), len(moments))
        for time, answer in zip(moments, answers):
            about = (tree, n, times, costs, time)
            in_time = [pair for pair in listed if pair[0] <= time]
            if not in_time:
                self.assertEqual(answer, [-6], about)
            else:
                cost = min(pair[1] for pair in in_time)
                least_time = min(pair[0] for pair in in_time if pair[1] == cost)
                self.assertEqual(answer[:2], [cost, least_time], about)

    def test_every_process_up_to_size_five(self):
        for size in (1, 3, 5):
            for tree in plain.trees(size, [A, B, C, NOTHING]):
                for n in (1, 2, 3):
                    self.check(tree, n, TIMES, COSTS)

    def test_larger_processes(self):
        for tree, n in plain.larger_trees(100):
            for times, costs in [(TIMES, COSTS), *plain.OFTEN_THE_SAME]:
                self.check(tree, n, times, costs)


if __name__ == "__main__":
    unittest.main()
