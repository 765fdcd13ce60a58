"""The call judge: what is a run, its time and cost, what is nearly one, and what is refused."""

import random
import unittest

from tests import plain
from tests.plain import A, B, C, CHOICE, COSTS, EMPTY, GREATEST, LOOP, NOTHING, PARALLEL, SEQUENCE, STEP, TIMES

# Steps 0 to 2 are (1, 7), (5, 2) and (3, 4).
D = (STEP, 3)
EITHER = (CHOICE, A, B)
ROUNDS = (1, 2, 3)


def judged(tree, run, n=2, times=TIMES, costs=COSTS):
    return judged_all(tree, [run], n, times, costs)[0]


def judged_all(tree, judged_runs, n=2, times=TIMES, costs=COSTS):
    looks = [plain.judge(plain.numbers_of(run)) for run in judged_runs]
    return plain.answered(tree, looks, n, times, costs, 52)


def again(first, second, rest):
    return (SEQUENCE, first, (SEQUENCE, second, rest))


class ConstructsTest(unittest.TestCase):
    def check(self, tree, run, answer, n=2):
        self.assertEqual(judged(tree, run, n), answer, (tree, run, n))

    def test_step(self):
        self.check(A, A, [1, 1, 7])
        self.check((STEP, 5), (STEP, 5), [1, 2, 100])
        self.check(A, B, [0])
        self.check(A, NOTHING, [0])
        self.check(A, (SEQUENCE, A, NOTHING), [0])
        self.check(A, (PARALLEL, A, A), [0])

    def test_a_step_above_5_is_not_refused(self):
        for step in (6, 7, 1000, GREATEST):
            self.check(A, (STEP, step), [0])
            self.check(NOTHING, (STEP, step), [0])
            self.check((SEQUENCE, A, B), (SEQUENCE, A, (STEP, step)), [0])
            self.check((LOOP, A, B), again(A, (STEP, step), A), [0])

    def test_empty_process(self):
        self.check(NOTHING, NOTHING, [1, 0, 0])
        self.check(NOTHING, A, [0])
        self.check(NOTHING, (SEQUENCE, NOTHING, NOTHING), [0])
        self.assertEqual(plain.told(plain.judge([1])), [[1, 0, 0]])

    def test_sequence(self):
        tree = (SEQUENCE, A, B)
        self.check(tree, (SEQUENCE, A, B), [1, 6, 9])
        for run in ((SEQUENCE, B, A), (PARALLEL, A, B), (CHOICE, A, B), (LOOP, A, B), A, B, NOTHING,
                    (SEQUENCE, A, A), (SEQUENCE, A, C), (SEQUENCE, A, NOTHING), (SEQUENCE, tree, NOTHING),
                    (SEQUENCE, NOTHING, tree)):
            self.check(tree, run, [0])

    def test_sequences_are_not_regrouped(self):
        left, right = (SEQUENCE, (SEQUENCE, A, B), C), (SEQUENCE, A, (SEQUENCE, B, C))
        self.check(left, left, [1, 9, 13])
        self.check(right, right, [1, 9, 13])
        self.check(left, right, [0])
        self.check(right, left, [0])

    def test_empty_parts_are_not_left_out(self):
        self.check((SEQUENCE, A, NOTHING), (SEQUENCE, A, NOTHING), [1, 1, 7])
        self.check((SEQUENCE, A, NOTHING), A, [0])
        self.check((PARALLEL, NOTHING, A), (PARALLEL, NOTHING, A), [1, 1, 7])
        self.check((PARALLEL, NOTHING, A), (PARALLEL, A, NOTHING), [0])

    def test_parallel(self):
        tree = (PARALLEL, A, B)
        self.check(tree, (PARALLEL, A, B), [1, 5, 9])
        for run in ((PARALLEL, B, A), (SEQUENCE, A, B), (CHOICE, A, B), (LOOP, A, B), A, B,
                    (PARALLEL, A, A), (PARALLEL, B, B), (PARALLEL, A, NOTHING)):
            self.check(tree, run, [0])

    def test_choice(self):
        self.check(EITHER, A, [1, 1, 7])
        self.check(EITHER, B, [1, 5, 2])
        for run in (C, NOTHING, EITHER, (CHOICE, B, A), (SEQUENCE, A, B), (PARALLEL, A, B)):
            self.check(EITHER, run, [0])

    def test_choices_are_made_each_for_itself(self):
        tree = (SEQUENCE, EITHER, EITHER)
        for one in (A, B):
            for other in (A, B):
                pair = plain.time_and_cost((SEQUENCE, one, other), TIMES, COSTS)
                self.check(tree, (SEQUENCE, one, other), [1, *pair])
        self.check(tree, (SEQUENCE, A, C), [0])
        self.check(tree, (SEQUENCE, EITHER, A), [0])
        self.check(tree, (SEQUENCE, A, EITHER), [0])
        self.check(tree, tree, [0])

    def test_a_run_that_is_worse_than_others_is_one_too(self):
        self.check((CHOICE, NOTHING, (SEQUENCE, A, B)), (SEQUENCE, A, B), [1, 6, 9])

    def test_a_choice_between_processes_that_begin_alike(self):
        tree = (CHOICE, (SEQUENCE, A, B), (SEQUENCE, A, C))
        self.check(tree, (SEQUENCE, A, B), [1, 6, 9])
        self.check(tree, (SEQUENCE, A, C), [1, 4, 11])
        self.check(tree, (SEQUENCE, A, A), [0])

    def test_steps_count_each_time_they_occur(self):
        self.check((PARALLEL, A, A), (PARALLEL, A, A), [1, 1, 14])
        self.check((LOOP, A, A), again(A, A, again(A, A, A)), [1, 5, 35], 3)

    def test_judge_follows_the_state(self):
        run = plain.judge([2, 0, 0, 2, 0, 1, 0, 0])
        calls = [plain.process([5, 0, 0, 0, 1]), run, plain.rounds(1), run, plain.rounds(3), run,
                 plain.step(1, 5, 60), run, plain.process([5, 0, 0, 0, 2]), run]
        self.assertEqual(plain.told(*calls), [
            [3], [1, 3, 3], [0], [0], [0], [1, 3, 3], [0], [1, 7, 62], [3], [0]])


class LoopsTest(unittest.TestCase):
    def check(self, tree, run, pair, least_rounds):
        """It is a run from this number of rounds on, and not with fewer."""
        for n in ROUNDS:
            expected = [1, *pair] if n >= least_rounds else [0]
            self.assertEqual(judged(tree, run, n), expected, (tree, run, n))

    def check_never(self, tree, *others):
        for run in others:
            self.check(tree, run, None, 4)

    def test_rounds(self):
        tree = (LOOP, A, B)
        self.check(tree, A, (1, 7), 1)
        self.check(tree, again(A, B, A), (7, 16), 2)
        self.check(tree, again(A, B, again(A, B, A)), (13, 25), 3)
        self.check(tree, again(A, B, again(A, B, again(A, B, A))), None, 4)

    def test_nearly_rounds(self):
        self.check_never(
            (LOOP, A, B), B, NOTHING, (SEQUENCE, A, B), (SEQUENCE, A, A), (SEQUENCE, (SEQUENCE, A, B), A),
            again(A, A, A), again(B, A, B), again(A, B, B), again(A, B, NOTHING), (LOOP, A, B),
            (PARALLEL, A, (SEQUENCE, B, A)), (SEQUENCE, A, (PARALLEL, B, A)), again(A, B, (LOOP, A, B)),
            again(A, B, (SEQUENCE, A, B)), again(A, B, (SEQUENCE, A, A)))

    def test_a_second_process_that_is_empty(self):
        tree = (LOOP, A, NOTHING)
        self.check(tree, A, (1, 7), 1)
        self.check(tree, again(A, NOTHING, A), (2, 14), 2)
        self.check_never(tree, (SEQUENCE, A, A), again(A, A, NOTHING), again(NOTHING, A, A))

    def test_choices_are_made_anew_in_each_round(self):
        tree = (LOOP, EITHER, (CHOICE, C, NOTHING))
        self.check(tree, again(A, C, again(B, NOTHING, A)), (10, 20), 3)
        self.check(tree, again(B, NOTHING, B), (10, 4), 2)
        self.check_never(tree, again(A, EITHER, B), again(C, C, A), again(A, A, A))

    def test_a_loop_as_the_first_process(self):
        tree = (LOOP, (LOOP, A, B), C)
        inner = again(A, B, A)
        self.check(tree, A, (1, 7), 1)
        self.check(tree, inner, (7, 16), 2)
        self.check(tree, again(A, C, A), (5, 18), 2)
        self.check(tree, again(inner, C, inner), (17, 36), 2)
        self.check(tree, again(A, C, inner), (11, 27), 2)
        self.check(tree, again(inner, C, again(A, C, inner)), (21, 47), 3)
        innermost = again(A, B, inner)
        self.check(tree, again(innermost, C, again(innermost, C, innermost)), (45, 83), 3)
        self.check_never(tree, again(A, B, innermost), again(A, C, again(A, C, again(A, C, A))),
                         again(A, B, again(A, C, A)), again(C, A, C))

    def test_a_loop_as_the_second_process(self):
        tree = (LOOP, C, (LOOP, A, B))
        inner = again(A, B, A)
        self.check(tree, C, (3, 4), 1)
        self.check(tree, again(C, A, C), (7, 15), 2)
        self.check(tree, again(C, inner, C), (13, 24), 2)
        innermost = again(A, B, inner)
        self.check(tree, again(C, innermost, again(C, innermost, C)), (35, 62), 3)
        self.check(tree, again(C, inner, again(C, A, C)), (17, 35), 3)
        self.check_never(tree, A, inner, again(C, again(A, B, innermost), C), again(C, A, A), again(A, C, A))

    def test_the_inner_loop_has_all_rounds_in_the_last_round_too(self):
        tree = (LOOP, (LOOP, A, NOTHING), C)
        twice = again(A, NOTHING, A)
        self.check(tree, again(A, C, twice), (6, 25), 2)
        thrice = again(A, NOTHING, twice)
        self.check(tree, again(A, C, again(A, C, thrice)), (11, 43), 3)

    def test_a_loop_of_a_loop_whose_runs_can_be_read_both_ways(self):
        tree = (LOOP, (LOOP, A, B), B)
        self.check(tree, again(A, B, A), (7, 16), 2)
        self.check(tree, again(A, B, again(A, B, A)), (13, 25), 2)
        self.check(tree, again(A, B, again(A, B, again(A, B, A))), (19, 34), 3)
        self.check(tree, again(A, B, again(A, B, again(A, B, again(A, B, A)))), (25, 43), 3)
        self.check_never(tree, again(A, B, again(A, B, again(A, B, again(A, B, again(A, B, A))))))

    def test_loops_within_other_constructs(self):
        inner = again(A, B, A)
        self.check((PARALLEL, (LOOP, A, B), C), (PARALLEL, inner, C), (7, 20), 2)
        self.check((SEQUENCE, C, (LOOP, A, B)), (SEQUENCE, C, inner), (10, 20), 2)
        self.check((CHOICE, C, (LOOP, A, B)), inner, (7, 16), 2)
        self.check((LOOP, (PARALLEL, A, B), C), again((PARALLEL, A, B), C, (PARALLEL, A, B)), (13, 22), 2)


class RefusedTest(unittest.TestCase):
    def check(self, numbers, code):
        calls = [plain.judge(numbers), plain.process([4, 0, 0, 5, 0, 1, 0, 2]), plain.judge(numbers)]
        self.assertEqual(plain.told(*calls), [[code], [5], [code]], numbers)

    def test_no_numbers(self):
        self.check([], -1)

    def test_too_few_numbers(self):
        for numbers in ([0], [2], [3], [4], [5], [2, 1], [4, 0, 0], [4, 0], [3, 1], [5, 0, 0], [2, 1, 0],
                        [2, 2, 1, 1], [2] * 100, [5] * 100, [2] * 50 + [1] * 50):
            self.check(numbers, -1)

    def test_numbers_left_over(self):
        for numbers in ([1, 1], [0, 0, 0], [1, 0], [0, 0, 1], [2, 1, 1, 1], [4, 0, 0, 0, 1, 9], [1] * 100,
                        [0, 6, 6], [1, GREATEST]):
            self.check(numbers, -1)

    def test_a_number_above_5_as_a_construct(self):
        for kind in (6, 7, 9, GREATEST):
            for numbers in ([kind], [kind, 0, 0], [kind, 1, 1], [2, kind, 1], [2, 1, kind], [3, 0, 0, kind]):
                self.check(numbers, -1)

    def test_a_run_with_choices_or_loops_is_answered_0(self):
        for numbers in ([3, 1, 1], [3, 0, 0, 0, 1], [5, 0, 0, 0, 1], [4, 0, 0, 5, 0, 1, 0, 2],
                        [4, 0, 0, 3, 0, 1, 0, 1]):
            self.check(numbers, 0)

    def test_any_first_process_of_a_loop_is_answered_0(self):
        for numbers in ([5, 1, 1], [5, 1, 0, 0], [5, 3, 1, 0, 0, 1], [2, 5, 1, 1, 5, 1, 1]):
            self.check(numbers, 0)

    def test_any_numbers_as_steps_are_answered_0(self):
        for step in (6, 9, 100, GREATEST):
            self.check([0, step], 0)
            self.check([2, 0, step, 0, step], 0)
            self.check([5, 0, step, 1], 0)

    def test_any_size_that_a_hundred_numbers_hold_is_answered_0(self):
        for kind in (2, 3, 4, 5):
            self.check([kind] * 6 + [1] * 7, 0)
            self.check([kind] * 49 + [1] * 50, 0)
            self.check([kind, 1] * 49 + [1], 0)
            self.check([kind] * 33 + [0, 5] * 33 + [1], 0)
            self.check([kind, 0, 5] * 33 + [1], 0)
            self.check([kind] * 49 + [1] * 49, -1)
            self.check([kind] * 49 + [1] * 51, -1)


class LongRunsTest(unittest.TestCase):
    def test_a_run_with_all_rounds_of_loops_in_both_places(self):
        tree = (LOOP, (LOOP, A, B), (LOOP, C, D))
        long_first = again(A, B, again(A, B, A))
        long_second = again(C, D, again(C, D, C))
        run = again(long_first, long_second, again(long_first, long_second, long_first))
        numbers = plain.numbers_of(run)
        self.assertEqual(len(numbers), 74)
        pair = plain.time_and_cost(run, TIMES, COSTS)
        self.assertEqual(judged(tree, run, 3), [1, *pair])
        self.assertEqual(judged(tree, run, 2), [0])

    def test_sixty_calls_with_a_hundred_numbers_each(self):
        state = [plain.rounds(3)]
        for process in ([5] * 5 + [0, 0] * 6, [5, 0, 0] * 5 + [0, 0], [3] * 5 + [0, 0] * 6):
            long_runs = [[2] * 49 + [1] * 50, [2, 0, 0] * 32 + [0, 0], [2] * 33 + [0, 0] * 32 + [1, 1],
                         [2, 1] * 49 + [1], [5] * 33 + [0, 0] * 32 + [1, 1], [2] * 100]
            codes = [[0]] * 5 + [[-1]]
            calls = [*state, plain.process(process)] + [plain.judge(run) for run in long_runs] * 9
            self.assertEqual(plain.told(*calls)[2:], codes * 9)

    def test_deep_runs_of_loops_of_one_step(self):
        # With the same step everywhere a run can be read in many ways: each of five loops
        # as the first process of the next one adds two rounds to what follows step by step.
        left = [5] * 5 + [0, 0] * 6
        right = [5, 0, 0] * 5 + [0, 0]
        for turns, of_left, of_right in ((2, [1, 5, 5], [1, 5, 5]), (3, [1, 7, 7], [0]),
                                         (10, [1, 21, 21], [0]), (11, [0], [0]), (16, [0], [0])):
            numbers = [2, 0, 0, 2, 0, 0] * turns + [0, 0]
            for process, answer in ((left, of_left), (right, of_right)):
                calls = [plain.rounds(3), plain.process(process), *[plain.judge(numbers)] * 58]
                self.assertEqual(plain.told(*calls), [[0], [11], *[answer] * 58])


class ListingTest(unittest.TestCase):
    """Against all runs of the process: each is one, and nothing else is."""

    def check(self, tree, judged_runs, n, times=TIMES, costs=COSTS):
        listed = set(plain.runs(tree, n))
        for run, answer in zip(judged_runs, judged_all(tree, judged_runs, n, times, costs), strict=True):
            expected = [1, *plain.time_and_cost(run, times, costs)] if run in listed else [0]
            self.assertEqual(answer, expected, (tree, run, n))

    def test_every_process_up_to_size_five_against_every_one_without_choices_and_loops(self):
        small = [tree for size in (1, 3, 5) for tree in plain.trees(size, [A, NOTHING])]
        plain_ones = [tree for tree in small if not plain.constructs_in(tree) & {CHOICE, LOOP}]
        for tree in small:
            longest = plain.runs(tree, 4) if plain.count_of_runs(tree, 4, 4) < 100 else []
            short = [run for run in longest if len(plain.numbers_of(run)) <= 100]
            for n in ROUNDS:
                self.check(tree, [*plain_ones, tree, *short], n)

    def test_every_process_of_size_three_against_every_small_one(self):
        small = [tree for size in (1, 3) for tree in plain.trees(size, [A, B, C, NOTHING])]
        for tree in small:
            self.check(tree, small, 2)

    def test_larger_processes_and_what_is_nearly_a_run_of_them(self):
        chance = random.Random(20261120)
        for tree, n in plain.larger_trees():
            listed = [run for run in plain.runs(tree, n) if len(plain.numbers_of(run)) <= 90]
            taken = chance.sample(listed, min(len(listed), 8))
            near = [changed(chance, run) for run in taken for turn in range(5)]
            self.check(tree, [*taken, *near], n)


def changed(chance, tree):
    """This process, with one construct in it changed."""
    kind = tree[0]
    if kind in (STEP, EMPTY) or chance.random() < 0.3:
        return changed_here(chance, tree)
    if chance.random() < 0.5:
        return (kind, changed(chance, tree[1]), tree[2])
    return (kind, tree[1], changed(chance, tree[2]))


def changed_here(chance, tree):
    if tree[0] in (STEP, EMPTY):
        return chance.choice([NOTHING, *[(STEP, number) for number in range(7)], (SEQUENCE, tree, NOTHING)])
    return chance.choice([
        (tree[0], tree[2], tree[1]), (SEQUENCE, *tree[1:]), (PARALLEL, *tree[1:]), (CHOICE, *tree[1:]),
        (LOOP, *tree[1:]), tree[1], tree[2], (tree[0], tree[1], tree[1])])


if __name__ == "__main__":
    unittest.main()
