"""The call process: its constructs, the size it returns, and what it refuses."""

import unittest

from tests import plain
from tests.plain import GREATEST

STEP_0 = [0, 0]
EMPTY = [1]

EMPTY_CAPABLE = {
    "the empty process": EMPTY,
    "a sequence of two empty processes": [2, 1, 1],
    "a parallel process of two empty processes": [4, 1, 1],
    "a choice with an empty first process": [3, 1, 0, 0],
    "a choice with an empty second process": [3, 0, 0, 1],
    "a choice of two empty processes": [3, 1, 1],
    "a sequence of such choices": [2, 3, 1, 0, 0, 3, 0, 1, 1],
    "a choice with a parallel process of empty ones": [3, 0, 0, 4, 1, 1],
}

NOT_EMPTY_CAPABLE = {
    "a step": STEP_0,
    "a sequence that begins with the empty process": [2, 1, 0, 0],
    "a sequence that ends with the empty process": [2, 0, 0, 1],
    "a sequence of two steps": [2, 0, 0, 0, 1],
    "a parallel process with an empty first process": [4, 1, 0, 0],
    "a parallel process with an empty second process": [4, 0, 0, 1],
    "a parallel process of two steps": [4, 0, 0, 0, 1],
    "a choice of two steps": [3, 0, 0, 0, 1],
    "a loop of a step and the empty process": [5, 0, 0, 1],
    "a sequence of an empty-capable choice and a step": [2, 3, 1, 0, 0, 0, 1],
}


def answer(numbers):
    return plain.told(plain.process(numbers))[0]


def chain(kind, leaves):
    """This construct again and again, with a leaf as its first process each time."""
    numbers = []
    for leaf in leaves[:-1]:
        numbers += [kind, *leaf]
    return numbers + leaves[-1]


class SizeTest(unittest.TestCase):
    def test_each_construct(self):
        sizes = [
            ([0, 0], 1), ([0, 5], 1), ([1], 1),
            ([2, 0, 0, 0, 1], 3), ([3, 0, 0, 0, 1], 3), ([4, 0, 0, 0, 1], 3), ([5, 0, 0, 0, 1], 3),
            ([2, 1, 1], 3), ([3, 1, 1], 3), ([4, 1, 1], 3), ([5, 0, 0, 1], 3),
            ([2, 2, 0, 0, 0, 1, 0, 2], 5), ([2, 0, 0, 2, 0, 1, 0, 2], 5),
        ]
        for numbers, size in sizes:
            with self.subTest(numbers=numbers):
                self.assertEqual(answer(numbers), [size])

    def test_every_small_process_has_its_size(self):
        for size in (1, 3, 5):
            for tree in plain.trees(size, [(0, 0), (0, 5), (1,)]):
                self.assertEqual(answer(plain.numbers_of(tree)), [size])

    def test_size_eleven_is_the_greatest(self):
        for kind in (2, 3, 4, 5):
            with self.subTest(kind=kind):
                self.assertEqual(answer(chain(kind, [STEP_0] * 6)), [11])
                self.assertEqual(answer(chain(kind, [STEP_0] * 7)), [-1])

    def test_size_counts_constructs_and_not_numbers(self):
        self.assertEqual(answer(chain(2, [EMPTY] * 6)), [11])
        self.assertEqual(answer(chain(2, [EMPTY] * 7)), [-1])
        self.assertEqual(answer([2] * 5 + [0, 5] * 6), [11])
        self.assertEqual(answer([2] * 6 + [0, 5] * 7), [-1])

    def test_a_hundred_numbers_are_too_large(self):
        self.assertEqual(answer(chain(2, [STEP_0] * 33 + [EMPTY])), [-1])
        self.assertEqual(answer(chain(2, [EMPTY] * 50)), [-1])
        self.assertEqual(answer([5] * 33 + [1] * 34), [-1])


class NotOneProcessTest(unittest.TestCase):
    def test_empty_list(self):
        self.assertEqual(answer([]), [-1])

    def test_too_few_numbers(self):
        for numbers in ([0], [2], [3], [4], [5], [2, 0], [2, 1], [2, 0, 0], [3, 0, 0, 0], [4, 1],
                        [5, 0, 0], [2, 0, 0, 2, 0, 1], [2] * 100, [5] * 100):
            with self.subTest(numbers=numbers):
                self.assertEqual(answer(numbers), [-1])

    def test_each_beginning_of_a_process_is_too_short(self):
        whole = [4, 3, 0, 0, 0, 1, 2, 5, 0, 2, 1, 0, 3]
        self.assertEqual(answer(whole), [9])
        for length in range(len(whole)):
            with self.subTest(length=length):
                self.assertEqual(answer(whole[:length]), [-1])

    def test_numbers_left_over(self):
        for numbers in ([0, 0, 0], [1, 1], [0, 0, 1], [1, 0, 0], [2, 1, 1, 1], [3, 0, 0, 0, 1, 5],
                        [0, 0, 9], [1] * 100):
            with self.subTest(numbers=numbers):
                self.assertEqual(answer(numbers), [-1])

    def test_a_number_above_five_is_no_construct(self):
        for kind in (6, 7, 9, GREATEST):
            for numbers in ([kind], [kind, 0], [kind, 1, 1], [2, kind, 1], [2, 1, kind], [3, 0, 0, kind, 0, 0]):
                with self.subTest(numbers=numbers):
                    self.assertEqual(answer(numbers), [-1])

    def test_a_step_above_five(self):
        for step in (6, 7, 100, GREATEST):
            for numbers in ([0, step], [2, 0, step, 0, 0], [2, 0, 0, 0, step], [5, 0, 0, 0, step],
                            [3, 1, 4, 0, 5, 0, step]):
                with self.subTest(numbers=numbers):
                    self.assertEqual(answer(numbers), [-1])


class EmptyCapableTest(unittest.TestCase):
    def test_first_process_of_a_loop_is_empty_capable(self):
        for name, numbers in EMPTY_CAPABLE.items():
            with self.subTest(name):
                self.assertNotEqual(answer(numbers), [-1])
                self.assertEqual(answer([5, *numbers, 0, 0]), [-1])

    def test_first_process_of_a_loop_is_not_empty_capable(self):
        for name, numbers in NOT_EMPTY_CAPABLE.items():
            with self.subTest(name):
                size = answer(numbers)[0]
                self.assertEqual(answer([5, *numbers, 0, 0]), [size + 2])

    def test_second_process_of_a_loop_may_be_empty_capable(self):
        for name, numbers in EMPTY_CAPABLE.items():
            with self.subTest(name):
                size = answer(numbers)[0]
                self.assertEqual(answer([5, 0, 0, *numbers]), [size + 2])

    def test_a_loop_is_looked_at_wherever_it_stands(self):
        wrong = [5, 1, 0, 0]
        for numbers in ([2, *wrong, 1], [2, 1, *wrong], [3, *wrong, 1], [3, 1, *wrong], [4, *wrong, 1],
                        [4, 1, *wrong], [5, *wrong, 1], [5, 0, 0, *wrong], [2, 5, 0, 0, 1, *wrong]):
            with self.subTest(numbers=numbers):
                self.assertEqual(answer(numbers), [-1])


class ProcessKeepsTest(unittest.TestCase):
    def test_process_replaces_the_process(self):
        pairs = plain.last_pairs(plain.step(1, 7, 9), plain.process([0, 0]), plain.process([0, 1]))
        self.assertEqual(pairs, [(7, 9)])

    def test_times_and_costs_are_kept_over_a_new_process(self):
        calls = [plain.step(0, 3, 4), plain.process([0, 0]), plain.step(1, 5, 6), plain.process([2, 0, 0, 0, 1])]
        self.assertEqual(plain.last_pairs(*calls), [(8, 10)])
        self.assertEqual(plain.last_pairs(*calls, plain.process([0, 1])), [(5, 6)])

    def test_rounds_are_kept_over_a_new_process(self):
        for n in (1, 2, 3):
            calls = [plain.rounds(n), plain.process([1]), plain.process([5, 0, 0, 1]), plain.worst()]
            self.assertEqual(plain.told(*calls), [[0], [1], [3], [n, n]])


if __name__ == "__main__":
    unittest.main()
