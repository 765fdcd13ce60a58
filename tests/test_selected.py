"""Which run is selected: by and soonest on each construct, and against the document's words."""

import unittest

from tests import plain
from tests.plain import A, B, C, CHOICE, COSTS, LOOP, NOTHING, PARALLEL, SEQUENCE, STEP, TIMES

# Steps 0 to 5 with these are (1, 6), (2, 5), (3, 4), (1, 6), (2, 5) and (0, 0).
STAIRS = [1, 2, 3, 1, 2, 0], [6, 5, 4, 6, 5, 0]
D, E, F = (STEP, 3), (STEP, 4), (STEP, 5)
FIRST_THREE = (CHOICE, A, (CHOICE, B, C))


def run_by(tree, time, n=2, times=TIMES, costs=COSTS):
    return plain.answered(tree, [plain.by(time)], n, times, costs)[0][2:]


def soonest(tree, n=2, times=TIMES, costs=COSTS):
    return plain.answered(tree, [plain.soonest()], n, times, costs)[0]


class StairsTest(unittest.TestCase):
    """Many combinations give the same pair where each quicker step is dearer by as much."""

    def check(self, tree, time, run):
        self.assertEqual(run_by(tree, time, 2, *STAIRS), plain.numbers_of(run))

    def test_sequence_takes_the_first_pair_with_the_least_time(self):
        tree = (SEQUENCE, FIRST_THREE, FIRST_THREE)
        self.check(tree, 2, (SEQUENCE, A, A))
        self.check(tree, 3, (SEQUENCE, A, B))
        self.check(tree, 4, (SEQUENCE, A, C))
        self.check(tree, 5, (SEQUENCE, B, C))
        self.check(tree, 6, (SEQUENCE, C, C))

    def test_sequence_takes_it_whatever_the_order_of_the_steps(self):
        backwards = (CHOICE, (CHOICE, C, B), A)
        self.check((SEQUENCE, backwards, backwards), 3, (SEQUENCE, A, B))
        self.check((SEQUENCE, backwards, backwards), 4, (SEQUENCE, A, C))
        self.check((SEQUENCE, (CHOICE, B, D), (CHOICE, A, E)), 3, (SEQUENCE, D, E))

    def test_sequences_within_a_sequence(self):
        either = (CHOICE, A, B)
        self.check((SEQUENCE, (SEQUENCE, either, either), either), 4, (SEQUENCE, (SEQUENCE, A, A), B))
        self.check((SEQUENCE, (SEQUENCE, either, either), either), 5, (SEQUENCE, (SEQUENCE, A, B), B))
        self.check((SEQUENCE, either, (SEQUENCE, either, either)), 4, (SEQUENCE, A, (SEQUENCE, A, B)))
        self.check((SEQUENCE, either, (SEQUENCE, either, either)), 5, (SEQUENCE, A, (SEQUENCE, B, B)))

    def test_parallel_takes_the_slower_one_where_that_is_cheaper(self):
        tree = (PARALLEL, FIRST_THREE, FIRST_THREE)
        self.check(tree, 1, (PARALLEL, A, A))
        self.check(tree, 2, (PARALLEL, B, B))
        self.check(tree, 3, (PARALLEL, C, C))
        self.check((PARALLEL, (CHOICE, A, B), C), 3, (PARALLEL, B, C))
        self.check((PARALLEL, C, (CHOICE, A, B)), 3, (PARALLEL, C, B))

    def test_parallel_keeps_to_what_sequences_within_it_select(self):
        either = (CHOICE, A, B)
        inner = (SEQUENCE, either, either)
        self.check((PARALLEL, inner, C), 3, (PARALLEL, (SEQUENCE, A, B), C))
        self.check((PARALLEL, C, inner), 3, (PARALLEL, C, (SEQUENCE, A, B)))
        self.check((PARALLEL, inner, either), 3, (PARALLEL, (SEQUENCE, A, B), B))

    def test_choice_takes_the_first_process_for_a_pair_of_both(self):
        self.check((CHOICE, A, D), 1, A)
        self.check((CHOICE, D, A), 1, D)
        self.check((CHOICE, A, A), 1, A)
        self.check((CHOICE, (CHOICE, A, E), (CHOICE, D, B)), 1, A)
        self.check((CHOICE, (CHOICE, A, E), (CHOICE, D, B)), 2, E)
        self.check((CHOICE, (CHOICE, E, A), (CHOICE, B, D)), 2, E)

    def test_choice_takes_the_second_process_for_a_pair_of_that_alone(self):
        self.check((CHOICE, C, (CHOICE, A, B)), 1, A)
        self.check((CHOICE, C, (CHOICE, A, B)), 2, B)
        self.check((CHOICE, C, (CHOICE, A, B)), 3, C)
        self.check((CHOICE, (CHOICE, A, C), (CHOICE, D, B)), 2, B)
        self.check((CHOICE, (SEQUENCE, A, B), C), 9, C)

    def test_choice_of_the_same_pair_by_other_constructs(self):
        joined = (SEQUENCE, B, F)
        self.check((CHOICE, joined, B), 2, joined)
        self.check((CHOICE, B, joined), 2, B)
        self.check((CHOICE, (PARALLEL, F, E), (CHOICE, joined, B)), 2, (PARALLEL, F, E))
        self.check((CHOICE, (CHOICE, joined, B), (PARALLEL, F, E)), 2, joined)
        self.check((SEQUENCE, F, (CHOICE, joined, (PARALLEL, B, F))), 2, (SEQUENCE, F, joined))

    def test_steps_without_time_and_cost_and_empty_processes(self):
        self.check((CHOICE, F, NOTHING), 0, F)
        self.check((CHOICE, NOTHING, F), 0, NOTHING)
        self.check((SEQUENCE, NOTHING, (CHOICE, A, B)), 2, (SEQUENCE, NOTHING, B))
        self.check((SEQUENCE, (CHOICE, A, B), NOTHING), 1, (SEQUENCE, A, NOTHING))
        self.check((PARALLEL, NOTHING, NOTHING), 0, (PARALLEL, NOTHING, NOTHING))
        self.check((PARALLEL, (CHOICE, F, NOTHING), (CHOICE, NOTHING, F)), 0, (PARALLEL, F, NOTHING))
        self.check((CHOICE, (SEQUENCE, F, NOTHING), NOTHING), 0, (SEQUENCE, F, NOTHING))

    def test_loop_takes_its_first_process(self):
        for n in (1, 2, 3):
            for second in (NOTHING, F, A, FIRST_THREE):
                for time, step in ((1, A), (2, B), (3, C), (4, C)):
                    loop = (LOOP, FIRST_THREE, second)
                    self.assertEqual(run_by(loop, time, n, *STAIRS), plain.numbers_of(step))

    def test_loop_takes_its_first_process_where_more_rounds_give_the_same_pair(self):
        for n in (1, 2, 3):
            for second in (NOTHING, F, (LOOP, F, NOTHING)):
                self.assertEqual(run_by((LOOP, F, second), 0, n, *STAIRS), [0, 5])
                self.assertEqual(run_by((LOOP, (LOOP, F, NOTHING), second), 0, n, *STAIRS), [0, 5])
                self.assertEqual(run_by((SEQUENCE, (LOOP, F, second), A), 1, n, *STAIRS), [2, 0, 5, 0, 0])

    def test_loops_within_other_constructs(self):
        either = (CHOICE, A, B)
        loop = (LOOP, either, F)
        self.check((SEQUENCE, loop, loop), 3, (SEQUENCE, A, B))
        self.check((LOOP, (SEQUENCE, either, either), F), 3, (SEQUENCE, A, B))
        self.check((CHOICE, (LOOP, D, NOTHING), A), 1, D)
        self.check((CHOICE, A, (LOOP, D, NOTHING)), 1, A)
        self.check((LOOP, (CHOICE, (SEQUENCE, F, A), D), NOTHING), 1, (SEQUENCE, F, A))


class CostsOrTimesOf0Test(unittest.TestCase):
    def test_sequence_with_steps_of_no_cost(self):
        times, costs = [1, 3, 1, 3, 0, 0], [4, 0, 4, 0, 0, 0]
        tree = (SEQUENCE, (CHOICE, B, A), (CHOICE, C, D))
        self.assertEqual(run_by(tree, 4, 2, times, costs), [2, 0, 0, 0, 3])
        self.assertEqual(run_by(tree, 6, 2, times, costs), [2, 0, 1, 0, 3])

    def test_sequence_with_steps_of_no_time(self):
        times, costs = [0, 2, 0, 2, 0, 0], [3, 1, 3, 1, 0, 0]
        tree = (SEQUENCE, (CHOICE, B, A), (CHOICE, D, C))
        self.assertEqual(run_by(tree, 0, 2, times, costs), [2, 0, 0, 0, 2])
        self.assertEqual(run_by(tree, 2, 2, times, costs), [2, 0, 0, 0, 3])
        self.assertEqual(run_by(tree, 4, 2, times, costs), [2, 0, 1, 0, 3])

    def test_parallel_with_steps_of_no_time(self):
        times, costs = [0, 2, 0, 2, 0, 0], [3, 1, 3, 1, 0, 0]
        tree = (PARALLEL, (CHOICE, B, A), (CHOICE, D, C))
        self.assertEqual(run_by(tree, 1, 2, times, costs), [4, 0, 0, 0, 2])
        self.assertEqual(run_by(tree, 2, 2, times, costs), [4, 0, 1, 0, 3])


class SoonestTest(unittest.TestCase):
    def test_time_then_cost_then_run(self):
        self.assertEqual(soonest(A), [1, 7, 0, 0])
        self.assertEqual(soonest((STEP, 4)), [100, 0, 0, 4])
        self.assertEqual(soonest((STEP, 3)), [0, 3, 0, 3])
        self.assertEqual(soonest(NOTHING), [0, 0, 1])

    def test_sequence(self):
        self.assertEqual(soonest((SEQUENCE, A, B)), [6, 9, 2, 0, 0, 0, 1])
        self.assertEqual(soonest((SEQUENCE, (CHOICE, B, A), C)), [4, 11, 2, 0, 0, 0, 2])

    def test_parallel(self):
        self.assertEqual(soonest((PARALLEL, A, B)), [5, 9, 4, 0, 0, 0, 1])
        self.assertEqual(soonest((PARALLEL, (CHOICE, B, A), (CHOICE, A, B))), [1, 14, 4, 0, 0, 0, 0])
        self.assertEqual(soonest((PARALLEL, (CHOICE, A, B), C)), [3, 11, 4, 0, 0, 0, 2])

    def test_of_the_quickest_ones_the_cheapest(self):
        self.assertEqual(soonest((PARALLEL, (CHOICE, A, C), B)), [5, 6, 4, 0, 2, 0, 1])
        self.assertEqual(soonest((CHOICE, A, B), 2, [4] * 6, COSTS), [4, 2, 0, 1])

    def test_choice(self):
        self.assertEqual(soonest((CHOICE, A, B)), [1, 7, 0, 0])
        self.assertEqual(soonest((CHOICE, B, A)), [1, 7, 0, 0])
        self.assertEqual(soonest((CHOICE, A, NOTHING)), [0, 0, 1])
        self.assertEqual(soonest((CHOICE, D, A), 2, *STAIRS), [1, 6, 0, 3])
        self.assertEqual(soonest((CHOICE, A, D), 2, *STAIRS), [1, 6, 0, 0])

    def test_loop(self):
        for n in (1, 2, 3):
            self.assertEqual(soonest((LOOP, A, B), n), [1, 7, 0, 0])
            self.assertEqual(soonest((LOOP, (CHOICE, B, A), C), n), [1, 7, 0, 0])
            self.assertEqual(soonest((LOOP, (LOOP, B, A), (LOOP, A, B)), n), [5, 2, 0, 1])
            self.assertEqual(soonest((LOOP, F, NOTHING), n, *STAIRS), [0, 0, 0, 5])

    def test_at_the_beginning_of_a_list(self):
        self.assertEqual(plain.told(plain.soonest()), [[0, 0, 1]])

    def test_soonest_follows_the_state(self):
        calls = [plain.process([3, 0, 0, 0, 1]), plain.soonest(), plain.step(1, 0, 9), plain.soonest(),
                 plain.process([0, 2]), plain.soonest()]
        self.assertEqual(plain.told(*calls), [
            [3], [1, 1, 0, 0], [0], [0, 9, 0, 1], [1], [1, 1, 0, 2]])


class DocumentTest(unittest.TestCase):
    """Each pair's run, by by and by soonest, against the document's words, and judged."""

    def check(self, tree, n, times, costs):
        about = (tree, n, times, costs)
        front = plain.plain_front(plain.run_pairs(tree, n, times, costs))
        looks = [plain.soonest(), *[plain.by(time) for time, cost in front]]
        soonest_answer, *answers = plain.answered(tree, looks, n, times, costs)
        self.assertEqual(len(answers), len(front))
        for (time, cost), answer in zip(front, answers):
            run = plain.numbers_of(plain.selected_run(tree, (time, cost), n, times, costs))
            self.assertEqual(answer, [cost, time, *run], about)
            judged = plain.answered(tree, [plain.judge(answer[2:])], n, times, costs)
            self.assertEqual(judged, [[1, time, cost]], about)
        self.assertEqual(soonest_answer, [*front[0], *answers[0][2:]], about)

    def test_every_process_up_to_size_five(self):
        for size in (1, 3, 5):
            for tree in plain.trees(size, [A, B, NOTHING]):
                for n in (1, 2, 3):
                    self.check(tree, n, TIMES, COSTS)

    def test_every_process_up_to_size_five_where_runs_have_the_same_pair(self):
        for size in (1, 3, 5):
            for tree in plain.trees(size, [A, B, NOTHING]):
                self.check(tree, 2, [0, 0, 0, 0, 0, 0], [0, 0, 0, 0, 0, 0])
                self.check(tree, 3, [1, 1, 0, 0, 0, 0], [0, 0, 0, 0, 0, 0])

    def test_larger_processes(self):
        for tree, n in plain.larger_trees():
            self.check(tree, n, TIMES, COSTS)

    def test_larger_processes_where_runs_have_the_same_pair(self):
        for tree, n in plain.larger_trees():
            for times, costs in plain.OFTEN_THE_SAME:
                self.check(tree, n, times, costs)


if __name__ == "__main__":
    unittest.main()
