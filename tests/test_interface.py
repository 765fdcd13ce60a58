"""The function answers: how calls are read, how answers are told, what is kept."""

import unittest

from processfronts.fronts import answers
from tests import plain

EXAMPLE = [plain.process([4, 3, 0, 0, 0, 1, 2, 5, 0, 2, 1, 0, 3]), plain.step(0, 9, 1), plain.step(1, 3, 8),
           plain.step(2, 2, 1), plain.step(3, 4, 1)]

LOOKS = [plain.front(), plain.by(8), plain.soonest(), plain.worst(), plain.judge([4, 0, 0, 2, 0, 2, 0, 3]),
         plain.judge([9])]


class ExamplesTest(unittest.TestCase):
    def test_the_document_s_examples(self):
        rows = [
            (plain.front(), [2, 6, 10, 9, 3]),
            (plain.by(8), [10, 6, 4, 0, 1, 2, 0, 2, 0, 3]),
            (plain.by(20), [3, 9, 4, 0, 0, 2, 0, 2, 0, 3]),
            (plain.by(5), [-6]),
            (plain.soonest(), [6, 10, 4, 0, 1, 2, 0, 2, 0, 3]),
            (plain.worst(), [9, 11]),
            (plain.judge([4, 0, 0, 2, 0, 2, 0, 3]), [1, 9, 3]),
            (plain.judge([4, 0, 1, 2, 2, 0, 2, 2, 1, 0, 2, 0, 3]), [1, 8, 11]),
            (plain.judge([3, 0, 0, 0, 1]), [0]),
            (plain.judge([9]), [-1]),
            (plain.rounds(3), [0]),
            (plain.worst(), [10, 12]),
            (plain.rounds(4), [-1]),
            (plain.process([2, 3, 1, 0, 0, 3, 1, 0, 0]), [7]),
            (plain.front(), [1, 0, 0]),
            (plain.step(6, 1, 1), [-1]),
            (plain.process([0, 6]), [-1]),
        ]
        calls = [*EXAMPLE, *[call for call, answer in rows]]
        expected = [[9], [0], [0], [0], [0], *[answer for call, answer in rows]]
        self.assertEqual(plain.told(*calls), expected)


class ReadingTest(unittest.TestCase):
    def test_calls_and_answers_number_by_number(self):
        calls = [0, 5, 3, 0, 0, 0, 1, 1, 0, 3, 4, 1, 1, 5, 2, 2, 3, 3]
        self.assertEqual(answers(calls), [1, 3, 1, 0, 1, 0, 1, 0, 5, 2, 3, 4, 5, 2])

    def test_by_soonest_worst_and_judge_number_by_number(self):
        calls = [0, 2, 0, 3, 1, 3, 4, 5, 4, 4, 4, 3, 5, 6, 7, 2, 0, 3, 7, 1, 1, 7, 1, 0]
        self.assertEqual(answers(calls), [
            1, 1, 1, 0, 4, 5, 4, 0, 3, 1, -6, 4, 4, 5, 0, 3, 2, 4, 5, 3, 1, 4, 5, 1, 0, 1, -1])

    def test_the_example_of_the_readme(self):
        calls = [0, 5, 3, 0, 0, 0, 1, 1, 0, 3, 4, 1, 1, 5, 2, 3, 4, 4, 5, 6, 7, 2, 0, 1]
        self.assertEqual(answers(calls), [
            1, 3, 1, 0, 1, 0, 5, 2, 3, 4, 5, 2, 4, 4, 3, 0, 0, 4, 3, 4, 0, 0, 2, 5, 4, 3, 1, 5, 2])

    def test_each_call_behind_each_other_one(self):
        said = {(0, 1, 1): [1, 1], (1, 0, 1, 1): [1, 0], (2, 2): [1, 0], (3,): [3, 1, 0, 0],
                (4, 7): [3, 0, 0, 1], (5,): [3, 0, 0, 1], (6,): [2, 0, 0], (7, 1, 1): [3, 1, 0, 0]}
        for one in said:
            for other in said:
                self.assertEqual(answers([*one, *other]), said[one] + said[other])

    def test_a_refusal_is_its_code_alone(self):
        self.assertEqual(answers([0, 0]), [1, -1])
        self.assertEqual(answers([7, 0]), [1, -1])
        self.assertEqual(answers([0, 2, 0, 0, 4, 0]), [1, 1, 1, -6])
        self.assertEqual(answers([1, 6, 1, 1]), [1, -1])
        self.assertEqual(answers([2, 0]), [1, -1])

    def test_a_call_behind_an_empty_list(self):
        self.assertEqual(answers([0, 0, 3]), [1, -1, 3, 1, 0, 0])
        self.assertEqual(answers([0, 0, 0, 0, 0, 1, 1]), [1, -1, 1, -1, 1, 1])
        self.assertEqual(answers([7, 0, 7, 0, 6]), [1, -1, 1, -1, 2, 0, 0])

    def test_the_numbers_of_a_run_are_not_read_as_calls(self):
        self.assertEqual(answers([7, 3, 6, 6, 6, 6]), [1, -1, 2, 0, 0])
        self.assertEqual(answers([7, 100] + [5] * 100 + [5]), [1, -1, 3, 0, 0, 1])
        self.assertEqual(answers([4, 5, 6]), [3, 0, 0, 1, 2, 0, 0])

    def test_the_numbers_of_a_process_are_not_read_as_calls(self):
        self.assertEqual(answers([0, 3, 3, 3, 3, 3]), [1, -1, 3, 1, 0, 0])
        self.assertEqual(answers([0, 100] + [3] * 100 + [2, 1]), [1, -1, 1, 0])

    def test_a_list_of_one_call(self):
        self.assertEqual(answers([0, 1, 1]), [1, 1])
        self.assertEqual(answers([1, 0, 1, 1]), [1, 0])
        self.assertEqual(answers([2, 1]), [1, 0])
        self.assertEqual(answers([3]), [3, 1, 0, 0])
        self.assertEqual(answers([4, 0]), [3, 0, 0, 1])
        self.assertEqual(answers([5]), [3, 0, 0, 1])
        self.assertEqual(answers([6]), [2, 0, 0])
        self.assertEqual(answers([7, 1, 1]), [3, 1, 0, 0])

    def test_sixty_calls_with_the_longest_lists(self):
        for call in (0, 7):
            calls = ([call, 100] + [2] * 100) * 60
            self.assertEqual(answers(calls), [1, -1] * 60)

    def test_answers_are_plain_whole_numbers(self):
        numbers = answers(plain.joined([*EXAMPLE, *LOOKS, plain.process([]), plain.rounds(9)]))
        self.assertIs(type(numbers), list)
        for number in numbers:
            self.assertIs(type(number), int)


class BeginningTest(unittest.TestCase):
    def test_the_process_is_the_empty_one(self):
        self.assertEqual(plain.told(plain.step(0, 5, 5), plain.front()), [[0], [1, 0, 0]])

    def test_times_and_costs_are_1(self):
        for number in range(6):
            self.assertEqual(plain.last_pairs(plain.process([0, number])), [(1, 1)])
        self.assertEqual(plain.last_pairs(plain.process([2, 0, 0, 4, 0, 1, 0, 2])), [(2, 3)])

    def test_the_number_of_rounds_is_2(self):
        answered = plain.told(plain.process([5, 0, 0, 1]), plain.worst(), plain.judge([2, 0, 0, 2, 1, 0, 0]),
                              plain.judge([2, 0, 0, 2, 1, 2, 0, 0, 2, 1, 0, 0]))
        self.assertEqual(answered, [[3], [2, 2], [1, 2, 2], [0]])

    def test_each_call_at_the_beginning(self):
        self.assertEqual(plain.told(plain.front(), plain.by(0), plain.soonest(), plain.worst(), plain.judge([1])),
                         [[1, 0, 0], [0, 0, 1], [0, 0, 1], [0, 0], [1, 0, 0]])


class NothingKeptTest(unittest.TestCase):
    def test_nothing_is_kept_from_one_list_to_another(self):
        looks = plain.joined([plain.front(), plain.process([2, 0, 0, 0, 1]), *LOOKS])
        before = answers(list(looks))
        answers(plain.joined([*EXAMPLE, plain.rounds(3), *LOOKS]))
        answers(plain.joined([plain.step(number, 100, 0) for number in range(6)]))
        self.assertEqual(answers(list(looks)), before)
        self.assertEqual(plain.split(before), [
            [1, 0, 0], [3], [1, 2, 2], [2, 2, 2, 0, 0, 0, 1], [2, 2, 2, 0, 0, 0, 1], [2, 2], [0], [-1]])

    def test_rounds_are_not_kept_from_one_list_to_another(self):
        looks = [plain.process([5, 0, 0, 1]), plain.worst()]
        for n in (1, 2, 3):
            self.assertEqual(plain.told(plain.rounds(n), *looks), [[0], [3], [n, n]])
            self.assertEqual(plain.told(*looks), [[3], [2, 2]])

    def test_the_same_list_is_answered_the_same_again(self):
        calls = plain.joined([*EXAMPLE, *LOOKS, plain.rounds(1), *LOOKS])
        self.assertEqual(answers(calls), answers(calls))

    def test_the_same_call_is_answered_the_same_again(self):
        told = plain.told(*EXAMPLE, *LOOKS, *LOOKS, *LOOKS)[len(EXAMPLE):]
        self.assertEqual(told, told[:len(LOOKS)] * 3)

    def test_the_list_handed_in_is_not_changed(self):
        calls = plain.joined([*EXAMPLE, *LOOKS, plain.process([]), plain.step(6, 1, 1), plain.rounds(0)])
        copy = list(calls)
        answers(calls)
        self.assertEqual(calls, copy)

    def test_the_answer_is_not_the_service_s_own(self):
        calls = plain.joined([*EXAMPLE, *LOOKS])
        first = answers(calls)
        expected = list(first)
        first.clear()
        self.assertEqual(answers(calls), expected)


class EdgeOfTheLimitsTest(unittest.TestCase):
    def test_sixty_calls_on_loops_within_loops(self):
        # All loops of each process, in three rounds, hold choices between quick and cheap.
        inner = [5, 5, 3, 0, 0, 0, 1, 5, 3, 0, 2, 0, 3, 0, 4, 0, 5]
        second = [5, 0, 0, 5, 3, 0, 1, 0, 2, 5, 3, 0, 3, 0, 4, 0, 5]
        long_run = plain.judge([2, 0, 0] * 33 + [1])
        state = [*[plain.step(number, 100 - number, number) for number in range(5)],
                 plain.step(5, 100, 100), plain.rounds(3)]
        for numbers, front in ((inner, [2, 99, 1, 100, 0]), (second, [1, 100, 0])):
            looks = [plain.front(), plain.by(plain.GREATEST), plain.by(98), plain.soonest()] * 3
            calls = [*state, plain.process(numbers), *looks, *[long_run, plain.worst()] * 20]
            self.assertEqual(len(calls), 60)
            told = plain.told(*calls)
            self.assertEqual(told[:9], [[0]] * 7 + [[11], front])
            self.assertEqual(told[8:20], [front, [0, 100, 0, 0], [-6], [*front[1:3], *told[11][2:]]] * 3)
            self.assertEqual(told[20:], told[20:22] * 20)
            self.assertEqual(told[20], [0])

    def test_the_calls_of_one_list_may_hold_every_operation_many_times(self):
        calls = [*EXAMPLE, *LOOKS * 3, *[plain.worst(), plain.judge([1] * 100)] * 18, plain.rounds(1)]
        self.assertEqual(len(calls), 60)
        told = plain.told(*calls)
        self.assertEqual(told[-3:], [[9, 11], [-1], [0]])


if __name__ == "__main__":
    unittest.main()
