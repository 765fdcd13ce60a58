"""The function answers: how calls are read, how answers are told, what is kept."""

import unittest

from processfronts.fronts import answers
from processfronts.service import Service
from tests import plain

EXAMPLE = [plain.process([4, 3, 0, 0, 0, 1, 2, 5, 0, 2, 1, 0, 3]), plain.step(0, 9, 1), plain.step(1, 3, 8),
           plain.step(2, 2, 1), plain.step(3, 4, 1)]


class ExamplesTest(unittest.TestCase):
    def test_the_document_s_examples(self):
        calls = [*EXAMPLE, plain.front(), plain.rounds(3), plain.rounds(4),
                 plain.process([2, 3, 1, 0, 0, 3, 1, 0, 0]), plain.front(), plain.step(6, 1, 1),
                 plain.process([0, 6])]
        self.assertEqual(plain.told(*calls), [
            [9], [0], [0], [0], [0], [2, 6, 10, 9, 3], [0], [-1], [7], [1, 0, 0], [-1], [-1]])


class ReadingTest(unittest.TestCase):
    def test_calls_and_answers_number_by_number(self):
        calls = [0, 5, 3, 0, 0, 0, 1, 1, 0, 3, 4, 1, 1, 5, 2, 2, 3, 3]
        self.assertEqual(answers(calls), [1, 3, 1, 0, 1, 0, 1, 0, 5, 2, 3, 4, 5, 2])

    def test_a_refusal_is_its_code_alone(self):
        self.assertEqual(answers([0, 0]), [1, -1])
        self.assertEqual(answers([1, 6, 1, 1]), [1, -1])
        self.assertEqual(answers([2, 0]), [1, -1])

    def test_a_call_behind_an_empty_list(self):
        self.assertEqual(answers([0, 0, 3]), [1, -1, 3, 1, 0, 0])
        self.assertEqual(answers([0, 0, 0, 0, 0, 1, 1]), [1, -1, 1, -1, 1, 1])

    def test_the_numbers_of_a_process_are_not_read_as_calls(self):
        self.assertEqual(answers([0, 3, 3, 3, 3, 3]), [1, -1, 3, 1, 0, 0])
        self.assertEqual(answers([0, 100] + [3] * 100 + [2, 1]), [1, -1, 1, 0])

    def test_a_list_of_one_call(self):
        self.assertEqual(answers([0, 1, 1]), [1, 1])
        self.assertEqual(answers([1, 0, 1, 1]), [1, 0])
        self.assertEqual(answers([2, 1]), [1, 0])
        self.assertEqual(answers([3]), [3, 1, 0, 0])

    def test_sixty_calls_with_the_longest_lists(self):
        calls = ([0, 100] + [2] * 100) * 60
        self.assertEqual(answers(calls), [1, -1] * 60)

    def test_answers_are_plain_whole_numbers(self):
        numbers = answers(plain.joined([*EXAMPLE, plain.front(), plain.process([]), plain.rounds(9)]))
        self.assertIs(type(numbers), list)
        for number in numbers:
            self.assertIs(type(number), int)


class BeginningTest(unittest.TestCase):
    def test_the_process_is_the_empty_one(self):
        self.assertEqual(plain.told(plain.step(0, 5, 5), plain.front()), [[0], [1, 0, 0]])

    def test_times_and_costs_are_1(self):
        for number in range(6):
            self.assertEqual(plain.last_pairs(plain.process([0, number])), [(1, 1)])
        self.assertEqual(plain.last_pairs(plain.process([2, 0, 0, 4, 0, 1, 0, 2])), [(2, 3)])

    def test_the_number_of_rounds_is_2(self):
        self.assertEqual(Service().round_count, 2)


class NothingKeptTest(unittest.TestCase):
    def test_nothing_is_kept_from_one_list_to_another(self):
        looks = plain.joined([plain.front(), plain.process([2, 0, 0, 0, 1]), plain.front()])
        before = answers(list(looks))
        answers(plain.joined([*EXAMPLE, plain.rounds(3), plain.front()]))
        answers(plain.joined([plain.step(number, 100, 0) for number in range(6)]))
        self.assertEqual(answers(list(looks)), before)
        self.assertEqual(before, [3, 1, 0, 0, 1, 3, 3, 1, 2, 2])

    def test_rounds_are_not_kept_from_one_service_to_another(self):
        Service().rounds(3)
        self.assertEqual(Service().round_count, 2)

    def test_the_same_list_is_answered_the_same_again(self):
        calls = plain.joined([*EXAMPLE, plain.front(), plain.rounds(1), plain.front()])
        self.assertEqual(answers(calls), answers(calls))

    def test_the_list_handed_in_is_not_changed(self):
        calls = plain.joined([*EXAMPLE, plain.front(), plain.process([]), plain.step(6, 1, 1), plain.rounds(0)])
        copy = list(calls)
        answers(calls)
        self.assertEqual(calls, copy)

    def test_the_answer_is_not_the_service_s_own(self):
        calls = plain.joined([*EXAMPLE, plain.front()])
        first = answers(calls)
        expected = list(first)
        first.clear()
        self.assertEqual(answers(calls), expected)


if __name__ == "__main__":
    unittest.main()
