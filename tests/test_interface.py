"""The interface: noasking.copies.answers."""

import unittest

from lines import LARGEST, NAMES, SIZES, calls_of, run, split_answers
from noasking.copies import answers

LINE = "begin 2 3, deed 0 0 1 0, deed 0 0 2 0, allow 3, answer 1 4, do 0 0, do 1 1, copies, ahead, differ, back, " \
       "again, gather, set 0, rule 7, allow 3, drop 0, ask 0, begin 5 5, copies"


class Interface(unittest.TestCase):
    def test_numbers_handed_in_and_given_back(self):
        calls = [0, 2, 2, 1, 15, 2, 0, 0, 1, 0, 3, 1, 4, 1, 5, 2, 6, 3, 7, 7, 1, 0, 8, 0, 9, 10, 11, 12, 13, 14]
        told = [1, 0, 1, 0, 1, 0, 1, -2, 1, 0, 1, 0, 1, 0, 1, 3, 1, 3, 1, 3, 1, 7, 1, 0, 4, 2, 3, 3, 3, 1, 3, 1, 0]
        self.assertEqual(answers(calls), told)

    def test_a_refusal_is_its_number_alone(self):
        self.assertEqual(answers([12]), [1, -61])
        self.assertEqual(answers([0, 0, 0]), [1, -22])
        self.assertEqual(answers([0, 1, 2, 10, 11, 7, 2, 0]), [1, 0, 1, -2, 1, -2, 1, -2])

    def test_the_count_stands_ahead_of_each_answer(self):
        self.assertEqual(answers([0, 1, 4, 12, 14]), [1, 0, 6, 4, 0, 0, 0, 0, 0, 1, 0])
        self.assertEqual(answers([0, 1, 2, 2, 0, 0, 1, 0, 4, 1, 7, 1, 0, 14]), [1, 0, 1, 0, 1, 0, 1, 1, 2, 1, 1])

    def test_the_list_handed_in_is_as_it_was(self):
        calls = calls_of(LINE)
        kept = list(calls)
        answers(calls)
        self.assertEqual(calls, kept)

    def test_the_list_given_back_is_another(self):
        calls = calls_of(LINE)
        given = answers(calls)
        kept = list(given)
        given.clear()
        self.assertEqual(answers(calls), kept)

    def test_nothing_is_kept_from_one_time_to_the_next(self):
        calls = calls_of(LINE)
        first = answers(calls)
        self.assertEqual(answers([10]), [1, -61])
        self.assertEqual(answers(calls), first)
        self.assertEqual(answers([0, 2, 2, 10, 11, 12]), [1, 0, 1, -2, 1, -2, 4, 2, 0, 0, 0])

    def test_only_whole_numbers_are_given_back(self):
        given = answers(calls_of(LINE))
        self.assertIs(type(given), list)
        self.assertEqual({type(number) for number in given}, {int})

    def test_below_zero_are_refusals_alone(self):
        for answered in run(LINE):
            self.assertTrue(len(answered) == 1 or min(answered) >= 0)

    def test_every_call_takes_its_numbers(self):
        for name in NAMES:
            with self.subTest(name):
                calls = [NAMES.index(name)] + [LARGEST] * SIZES[name] + [0, 1, 2]
                self.assertEqual(split_answers(answers(calls))[1:], [[0]])


class SixtyCalls(unittest.TestCase):
    def test_of_each_size(self):
        self.assertEqual(run("begin 1 2", *["ahead"] * 59), [[0]] * 60)
        self.assertEqual(run(*["begin 4 4"] * 60), [[0]] * 60)
        self.assertEqual(run("begin 1 4", *["copies"] * 59), [[0]] + [[4, 0, 0, 0, 0, 0]] * 59)

    def test_of_five_numbers_each(self):
        calls = calls_of(",".join([f"deed {LARGEST} {LARGEST} {LARGEST} {LARGEST}"] * 60))
        self.assertEqual(len(calls), 300)
        self.assertEqual(answers(calls), [1, -61] * 60)

    def test_of_changes(self):
        sets = [f"set {at % 16}" for at in range(1, 49)]
        told = run("begin 4 4", *sets, *["back"] * 11)
        self.assertEqual(len(told), 60)
        self.assertEqual(told[1:49], [[at % 16] for at in range(48)])
        self.assertEqual(told[49:], [[9], [8], [7], [6], [5], [4], [3], [2], [1], [0], [-2]])

    def test_of_sets_that_are_asked_whether_they_are_free(self):
        # As much as can be asked of one line: six deeds by which every state is reached, 53 times.
        deeds = ["deed 0 0 1 0", "deed 0 0 2 0", "deed 0 0 4 0", "deed 0 0 8 0", "deed 0 0 0 3", "deed 0 0 0 12"]
        self.assertEqual(run("begin 4 4", *deeds, *["allow 63"] * 53)[7:], [[0]] + [[63]] * 52)


if __name__ == "__main__":
    unittest.main()
