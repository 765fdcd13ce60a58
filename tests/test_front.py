"""The call front, by hand, and by the listing of all runs; points 1, 4, 5 and 6."""

import unittest

from tests import plain
from tests.plain import A, B, C, CHOICE, COSTS, LOOP, NOTHING, PARALLEL, SEQUENCE, STEP, TIMES


def pairs_of(tree, n=2, times=TIMES, costs=COSTS):
    calls = [plain.amounts(times, costs), plain.rounds(n), plain.process(plain.numbers_of(tree))]
    return plain.last_pairs(*calls)


def is_met(pair, pairs):
    return any(other[0] <= pair[0] and other[1] <= pair[1] for other in pairs)


class ConstructsTest(unittest.TestCase):
    def test_step(self):
        for number in range(6):
            self.assertEqual(pairs_of((STEP, number)), [(TIMES[number], COSTS[number])])

    def test_empty_process(self):
        self.assertEqual(pairs_of(NOTHING), [(0, 0)])

    def test_sequence_adds_times_and_costs(self):
        self.assertEqual(pairs_of((SEQUENCE, A, B)), [(6, 9)])
        self.assertEqual(pairs_of((SEQUENCE, A, A)), [(2, 14)])
        self.assertEqual(pairs_of((SEQUENCE, NOTHING, B)), [(5, 2)])

    def test_parallel_takes_the_slower_time_and_adds_costs(self):
        self.assertEqual(pairs_of((PARALLEL, A, B)), [(5, 9)])
        self.assertEqual(pairs_of((PARALLEL, B, A)), [(5, 9)])
        self.assertEqual(pairs_of((PARALLEL, A, A)), [(1, 14)])
        self.assertEqual(pairs_of((PARALLEL, B, NOTHING)), [(5, 2)])

    def test_choice_of_two_that_are_not_worse(self):
        self.assertEqual(pairs_of((CHOICE, A, B)), [(1, 7), (5, 2)])
        self.assertEqual(pairs_of((CHOICE, B, A)), [(1, 7), (5, 2)])

    def test_choice_in_which_one_is_worse(self):
        self.assertEqual(pairs_of((CHOICE, A, NOTHING)), [(0, 0)])
        self.assertEqual(pairs_of((CHOICE, (SEQUENCE, A, B), C)), [(3, 4)])

    def test_choice_with_the_same_time_or_cost(self):
        times, costs = [4, 4, 6, 1, 1, 1], [5, 3, 3, 1, 1, 1]
        self.assertEqual(pairs_of((CHOICE, A, B), 2, times, costs), [(4, 3)])
        self.assertEqual(pairs_of((CHOICE, B, A), 2, times, costs), [(4, 3)])
        self.assertEqual(pairs_of((CHOICE, B, C), 2, times, costs), [(4, 3)])
        self.assertEqual(pairs_of((CHOICE, C, B), 2, times, costs), [(4, 3)])
        self.assertEqual(pairs_of((CHOICE, A, A), 2, times, costs), [(4, 5)])

    def test_choices_of_several_pairs(self):
        either = (CHOICE, A, B)
        self.assertEqual(pairs_of((CHOICE, either, C)), [(1, 7), (3, 4), (5, 2)])
        self.assertEqual(pairs_of((SEQUENCE, either, either)), [(2, 14), (6, 9), (10, 4)])
        self.assertEqual(pairs_of((PARALLEL, either, either)), [(1, 14), (5, 4)])
        self.assertEqual(pairs_of((PARALLEL, (SEQUENCE, either, A), either)), [(2, 21), (5, 16), (6, 11)])

    def test_a_pair_that_only_the_whole_process_betters(self):
        costs = [7, 2, 6, 1, 1, 1]
        either = (CHOICE, A, (CHOICE, B, C))
        self.assertEqual(pairs_of(either, 2, TIMES, costs), [(1, 7), (3, 6), (5, 2)])
        self.assertEqual(pairs_of((SEQUENCE, either, either), 2, TIMES, costs),
                         [(2, 14), (4, 13), (6, 9), (8, 8), (10, 4)])

    def test_loops_with_one_two_and_three_rounds(self):
        for n in (1, 2, 3):
            with self.subTest(n=n):
                self.assertEqual(pairs_of((LOOP, A, B), n), [(1, 7)])
                self.assertEqual(pairs_of((LOOP, B, NOTHING), n), [(5, 2)])
                self.assertEqual(pairs_of((LOOP, (CHOICE, A, B), C), n), [(1, 7), (5, 2)])
                self.assertEqual(pairs_of((SEQUENCE, (LOOP, A, B), C), n), [(4, 11)])

    def test_a_loop_within_a_loop(self):
        for n in (1, 2, 3):
            with self.subTest(n=n):
                self.assertEqual(pairs_of((LOOP, (LOOP, A, B), C), n), [(1, 7)])
                self.assertEqual(pairs_of((LOOP, C, (LOOP, A, B)), n), [(3, 4)])
                self.assertEqual(pairs_of((LOOP, (LOOP, (CHOICE, B, A), B), C), n), [(1, 7), (5, 2)])

    def test_steps_without_time_or_cost(self):
        times, costs = [0, 0, 4, 1, 1, 1], [0, 6, 0, 1, 1, 1]
        self.assertEqual(pairs_of((LOOP, A, A), 3, times, costs), [(0, 0)])
        self.assertEqual(pairs_of((CHOICE, B, C), 3, times, costs), [(0, 6), (4, 0)])
        self.assertEqual(pairs_of((CHOICE, A, C), 3, times, costs), [(0, 0)])


class ListingTest(unittest.TestCase):
    """Point 1, and the front itself, against all runs of the process."""

    def check(self, tree, n, times, costs):
        shown = pairs_of(tree, n, times, costs)
        listed = plain.run_pairs(tree, n, times, costs)
        about = (tree, n, times, costs)
        for pair in shown:
            self.assertIn(pair, listed, about)
        for pair in listed:
            self.assertTrue(is_met(pair, shown), about)
        for before, behind in zip(shown, shown[1:]):
            self.assertLess(before[0], behind[0], about)
            self.assertGreater(before[1], behind[1], about)
        self.assertEqual(shown, plain.plain_front(listed), about)

    def test_every_process_up_to_size_five(self):
        for size in (1, 3, 5):
            for tree in plain.trees(size, [A, B, C, NOTHING]):
                for n in (1, 2, 3):
                    self.check(tree, n, TIMES, COSTS)

    def test_larger_processes(self):
        for tree, n in plain.larger_trees():
            self.check(tree, n, TIMES, COSTS)

    def test_larger_processes_where_each_quicker_step_is_dearer(self):
        for tree, n in plain.larger_trees():
            self.check(tree, n, [1, 2, 4, 7, 9, 3], [30, 25, 19, 11, 2, 22])

    def test_larger_processes_where_times_or_costs_are_0_or_the_same(self):
        for tree, n in plain.larger_trees():
            self.check(tree, n, [0, 2, 2, 0, 0, 0], [2, 1, 0, 0, 0, 0])


class MonotonyTest(unittest.TestCase):
    def test_point_4_less_time_of_a_step(self):
        for tree in plain.trees(5, [A, B, C]):
            before = pairs_of(tree)
            for number in (0, 1, 2):
                for less in range(TIMES[number]):
                    quicker = TIMES[:number] + [less] + TIMES[number + 1:]
                    after = pairs_of(tree, 2, quicker)
                    for pair in before:
                        self.assertTrue(is_met(pair, after), (tree, number, less))

    def test_point_5_more_rounds(self):
        cases = [tree for tree, n in plain.larger_trees()] + plain.trees(5, [A, B, NOTHING])
        for tree in cases:
            for before, after in ((1, 2), (2, 3), (1, 3)):
                after_pairs = pairs_of(tree, after)
                for pair in pairs_of(tree, before):
                    self.assertTrue(is_met(pair, after_pairs), (tree, before, after))

    def test_point_6_one_pair_without_choices_and_loops(self):
        cases = [tree for size in (1, 3, 5, 7) for tree in plain.trees(size, [A, B, NOTHING])
                 if not plain.constructs_in(tree) & {CHOICE, LOOP}]
        self.assertGreater(len(cases), 100)
        for tree in cases:
            shown = pairs_of(tree)
            self.assertEqual(len(shown), 1, tree)
            self.assertEqual(shown, plain.run_pairs(tree, 2, TIMES, COSTS), tree)


class LimitsTest(unittest.TestCase):
    def test_a_request_at_the_edge(self):
        deep = [5, 5, 5, 5, 5, 0, 0, 0, 1, 0, 2, 0, 3, 0, 4, 0, 5]
        wide = [4, 3, 0, 0, 0, 1, 5, 3, 0, 2, 0, 3, 3, 0, 4, 0, 5]
        inner = [5, 0, 0, 5, 0, 1, 5, 0, 2, 5, 0, 3, 5, 0, 4, 0, 5]
        amounts = [plain.step(number, 100, 100) for number in range(6)]
        calls = [*amounts, plain.rounds(3), *[plain.rounds(3)] * 38]
        for numbers in (deep, wide, inner):
            calls += [plain.process(numbers), *[plain.front()] * 4]
        self.assertEqual(len(calls), 60)
        answers = plain.told(*calls)
        self.assertEqual(answers[:45], [[0]] * 45)
        one, two = [1, 100, 100], [1, 100, 200]
        self.assertEqual(answers[45:], [[11], *[one] * 4, [11], *[two] * 4, [11], *[one] * 4])

    def test_all_combinations_of_the_most_choices_are_on_the_front(self):
        calls = [plain.amounts([1, 2, 4, 0], [96, 92, 84, 100]),
                 plain.process([2, 3, 0, 0, 0, 3, 2, 3, 0, 1, 0, 3, 3, 0, 2, 0, 3])]
        self.assertEqual(plain.last_pairs(*calls), [(time, 300 - 4 * time) for time in range(8)])

    def test_the_greatest_times_and_costs_add_up(self):
        calls = [plain.step(5, 100, 100), plain.rounds(3)]
        for kind, pair in ((2, (600, 600)), (4, (100, 600)), (3, (100, 100)), (5, (100, 100))):
            numbers = [kind] * 5 + [0, 5] * 6
            self.assertEqual(plain.last_pairs(*calls, plain.process(numbers)), [pair])


if __name__ == "__main__":
    unittest.main()
