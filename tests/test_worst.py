"""The call worst, by hand, and by the listing of all runs; points 3, 5 and 6."""

import unittest

from tests import plain
from tests.plain import A, B, C, CHOICE, COSTS, LOOP, NOTHING, PARALLEL, SEQUENCE, STEP, TIMES

# Steps 0 to 2 are (1, 7), (5, 2) and (3, 4).


def worst(tree, n=2, times=TIMES, costs=COSTS):
    return plain.answered(tree, [plain.worst()], n, times, costs)[0]


class ConstructsTest(unittest.TestCase):
    def test_step(self):
        for number in range(6):
            self.assertEqual(worst((STEP, number)), [TIMES[number], COSTS[number]])

    def test_empty_process(self):
        self.assertEqual(worst(NOTHING), [0, 0])
        self.assertEqual(plain.told(plain.worst()), [[0, 0]])

    def test_sequence(self):
        self.assertEqual(worst((SEQUENCE, A, B)), [6, 9])
        self.assertEqual(worst((SEQUENCE, NOTHING, B)), [5, 2])

    def test_parallel(self):
        self.assertEqual(worst((PARALLEL, A, B)), [5, 9])
        self.assertEqual(worst((PARALLEL, B, A)), [5, 9])
        self.assertEqual(worst((PARALLEL, A, NOTHING)), [1, 7])

    def test_choice_with_time_and_cost_of_the_same_run(self):
        self.assertEqual(worst((CHOICE, A, NOTHING)), [1, 7])
        self.assertEqual(worst((CHOICE, NOTHING, A)), [1, 7])
        self.assertEqual(worst((CHOICE, (SEQUENCE, A, B), C)), [6, 9])

    def test_choice_with_time_and_cost_of_different_runs(self):
        self.assertEqual(worst((CHOICE, A, B)), [5, 7])
        self.assertEqual(worst((CHOICE, B, A)), [5, 7])
        self.assertEqual(worst((CHOICE, C, (CHOICE, B, A))), [5, 7])
        self.assertEqual(worst((SEQUENCE, (CHOICE, A, B), (CHOICE, A, B))), [10, 14])
        self.assertEqual(worst((PARALLEL, (CHOICE, A, B), (CHOICE, A, C))), [5, 14])

    def test_a_loop_with_one_two_and_three_rounds(self):
        self.assertEqual([worst((LOOP, A, B), n) for n in (1, 2, 3)], [[1, 7], [7, 16], [13, 25]])
        self.assertEqual([worst((LOOP, B, A), n) for n in (1, 2, 3)], [[5, 2], [11, 11], [17, 20]])
        self.assertEqual([worst((LOOP, A, NOTHING), n) for n in (1, 2, 3)], [[1, 7], [2, 14], [3, 21]])

    def test_a_loop_of_choices(self):
        either = (CHOICE, A, B)
        self.assertEqual([worst((LOOP, either, C), n) for n in (1, 2, 3)], [[5, 7], [13, 18], [21, 29]])
        self.assertEqual([worst((LOOP, C, either), n) for n in (1, 2, 3)], [[3, 4], [11, 15], [19, 26]])

    def test_a_loop_as_the_first_process_of_a_loop(self):
        tree = (LOOP, (LOOP, A, B), C)
        self.assertEqual([worst(tree, n) for n in (1, 2, 3)], [[1, 7], [17, 36], [45, 83]])

    def test_a_loop_as_the_second_process_of_a_loop(self):
        tree = (LOOP, C, (LOOP, A, B))
        self.assertEqual([worst(tree, n) for n in (1, 2, 3)], [[3, 4], [13, 24], [35, 62]])

    def test_loops_as_both_processes_of_a_loop(self):
        tree = (LOOP, (LOOP, A, B), (LOOP, C, NOTHING))
        self.assertEqual([worst(tree, n) for n in (1, 2, 3)], [[1, 7], [20, 40], [57, 99]])

    def test_loops_within_other_constructs(self):
        loop = (LOOP, A, B)
        self.assertEqual([worst((SEQUENCE, loop, C), n) for n in (1, 2, 3)], [[4, 11], [10, 20], [16, 29]])
        self.assertEqual([worst((PARALLEL, C, loop), n) for n in (1, 2, 3)], [[3, 11], [7, 20], [13, 29]])
        self.assertEqual([worst((CHOICE, loop, B), n) for n in (1, 2, 3)], [[5, 7], [7, 16], [13, 25]])

    def test_five_loops_within_one_another(self):
        amounts = [100] * 6
        left = [5, 5, 5, 5, 5, *[0, 0] * 6]
        right = [*[5, 0, 0] * 5, 0, 0]
        expected = {1: ([100, 100], [100, 100]), 2: ([6300, 6300], [1100, 1100]), 3: ([48500, 48500], [12500, 12500])}
        for n, (of_left, of_right) in expected.items():
            with self.subTest(n=n):
                state = [plain.amounts(amounts, amounts), plain.rounds(n)]
                calls = [plain.process(left), plain.worst(), plain.process(right), plain.worst()]
                self.assertEqual(plain.told(*state, *calls)[7:], [[11], of_left, [11], of_right])

    def test_worst_follows_the_state(self):
        calls = [plain.process([5, 0, 0, 0, 1]), plain.worst(), plain.rounds(3), plain.worst(),
                 plain.step(0, 10, 20), plain.worst(), plain.rounds(1), plain.worst(),
                 plain.process([0, 1]), plain.worst()]
        self.assertEqual(plain.told(*calls), [
            [3], [3, 3], [0], [5, 5], [0], [32, 62], [0], [10, 20], [1], [1, 1]])


class ListingTest(unittest.TestCase):
    """Points 3, 5 and 6 against all runs of the process."""

    def check(self, tree, n, times, costs):
        listed = plain.run_pairs(tree, n, times, costs)
        expected = [max(time for time, cost in listed), max(cost for time, cost in listed)]
        self.assertEqual(worst(tree, n, times, costs), expected, (tree, n, times, costs))

    def test_point_3_every_process_up_to_size_five(self):
        for size in (1, 3, 5):
            for tree in plain.trees(size, [A, B, C, NOTHING]):
                for n in (1, 2, 3):
                    self.check(tree, n, TIMES, COSTS)

    def test_point_3_larger_processes(self):
        for tree, n in plain.larger_trees():
            for times, costs in [(TIMES, COSTS), *plain.OFTEN_THE_SAME]:
                self.check(tree, n, times, costs)

    def test_point_5_more_rounds(self):
        grown = 0
        for tree in [tree for tree, n in plain.larger_trees()] + plain.trees(5, [A, B, NOTHING]):
            one, two, three = [worst(tree, n) for n in (1, 2, 3)]
            self.assertLessEqual(one[0], two[0], tree)
            self.assertLessEqual(two[0], three[0], tree)
            grown += one[0] < two[0] < three[0]
        self.assertGreater(grown, 100)

    def test_point_6_the_one_pair_without_choices_and_loops(self):
        cases = [tree for size in (1, 3, 5, 7) for tree in plain.trees(size, [A, B, NOTHING])
                 if not plain.constructs_in(tree) & {CHOICE, LOOP}]
        self.assertGreater(len(cases), 100)
        for tree in cases:
            front, greatest = plain.answered(tree, [plain.front(), plain.worst()])
            self.assertEqual(front, [1, *greatest], tree)


if __name__ == "__main__":
    unittest.main()
