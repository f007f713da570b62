"""The interface: noasking.copies.answers."""

import random
import unittest

from lines import LARGEST, LOOKS, NAMES, SIZES, all_looks, calls_of, run, split_answers
from model import Line, named, some_deed
from noasking.copies import answers

LINE = "begin 2 3, deed 0 0 1 0, deed 0 0 2 0, allow 3, answer 1 4, do 0 0, do 1 1, copies, ahead, differ, back, " \
       "again, can_do 0, can_ask, reach 1, told 0, sure 1, may 2, may_come 0, gather, set 0, rule 7, allow 3, state, " \
       "keeps 2, keeps 5, broken 2, broken 1, fewest, clashes, most_free, asked, closed, drop 0, ask 0, " \
       "begin 5 5, copies"


class Interface(unittest.TestCase):
    def test_numbers_handed_in_and_given_back(self):
        calls = [0, 2, 2, 1, 15, 2, 0, 0, 1, 0, 3, 1, 4, 1, 5, 2, 6, 3, 7, 7, 1, 0, 8, 0, 9, 10, 11, 12, 13, 14]
        told = [1, 0, 1, 0, 1, 0, 1, -2, 1, 0, 1, 0, 1, 0, 1, 3, 1, 3, 1, 3, 1, 7, 1, 0, 4, 2, 3, 3, 3, 1, 3, 1, 0]
        self.assertEqual(answers(calls), told)

    def test_numbers_of_the_looks_handed_in_and_given_back(self):
        ready = [0, 2, 2, 2, 0, 0, 1, 0, 2, 0, 0, 2, 0, 1, 7, 4, 1, 6, 1, 3, 7, 1, 0]
        calls = [15, 0, 16, 17, 0, 18, 2, 19, 3, 20, 21, 22, 23, 24, 25, 1, 26, 1, 27, 0, 28, 0, 29]
        told = [2, 1, 0, 2, 1, 0, 3, 2, 0, 1, 1, 0, 5, 0, 0, 1, 2, 3, 1, 2, 3, 1, 0, 1, 3, 2, 1, 2, 3, 1, 1, 2, 1, 0,
                1, 3, 1, 3, 1, 3, 3, 2, 0, 1, 5, 2, 2, 7, 2, 1]
        behind = [1, 0, 1, 0, 1, 1, 1, 0, 1, 0, 1, 0, 1, 1]
        self.assertEqual(answers(ready + calls), behind + told)

    def test_a_refusal_is_its_number_alone(self):
        self.assertEqual(answers([0, 1, 2, 15, 2, 17, 2, 25, 2, 26, 2, 27, 2, 28, 2]), [1, 0] + [1, -2] * 6)
        self.assertEqual(answers([0, 1, 2, 18, 0, 18, 5, 19, 0, 19, 5]), [1, 0] + [1, -22] * 4)
        self.assertEqual(answers([0, 1, 2, 19, 4, 20]), [1, 0, 1, -33, 1, -33])
        self.assertEqual(answers([12]), [1, -61])
        self.assertEqual(answers([0, 0, 0]), [1, -22])
        self.assertEqual(answers([0, 1, 2, 10, 11, 7, 2, 0]), [1, 0, 1, -2, 1, -2, 1, -2])

    def test_the_count_stands_ahead_of_each_answer(self):
        self.assertEqual(answers([0, 1, 4, 12, 14]), [1, 0, 6, 4, 0, 0, 0, 0, 0, 1, 0])
        self.assertEqual(answers([0, 1, 2, 2, 0, 0, 1, 0, 4, 1, 7, 1, 0, 14]), [1, 0, 1, 0, 1, 0, 1, 1, 2, 1, 1])

    def test_the_list_handed_in_is_as_it_was(self):
        calls = calls_of(LINE)
        kept = list(calls)
        answers(calls)
        self.assertEqual(calls, kept)

    def test_the_list_given_back_is_another(self):
        calls = calls_of(LINE)
        given = answers(calls)
        kept = list(given)
        given.clear()
        self.assertEqual(answers(calls), kept)

    def test_nothing_is_kept_from_one_time_to_the_next(self):
        calls = calls_of(LINE)
        first = answers(calls)
        self.assertEqual(answers([10]), [1, -61])
        self.assertEqual(answers(calls), first)
        self.assertEqual(answers([0, 2, 2, 10, 11, 12]), [1, 0, 1, -2, 1, -2, 4, 2, 0, 0, 0])

    def test_only_whole_numbers_are_given_back(self):
        given = answers(calls_of(LINE))
        self.assertIs(type(given), list)
        self.assertEqual({type(number) for number in given}, {int})

    def test_below_zero_are_refusals_alone(self):
        for answered in run(LINE):
            self.assertTrue(len(answered) == 1 or min(answered) >= 0)

    def test_how_many_numbers_each_call_answers(self):
        line = "begin 3 3, deed 7 0 1 0, deed 7 0 2 0, deed 7 0 4 0, rule 127, allow 3, do 0 0"
        for text, answered in zip(all_looks(3), run(line, *all_looks(3))[7:]):
            name = text.split()[0]
            with self.subTest(text):
                if name in ("differ", "can_do", "can_ask", "reach", "most_free", "may_come"):
                    self.assertEqual(len(answered), answered[0] + 1)
                elif name == "clashes":
                    self.assertEqual(len(answered), 2 * answered[0] + 1)
                elif name == "broken":
                    self.assertIn(len(answered), (1, int(text.split()[1]) + 2))
                elif name not in ("asked", "copies"):
                    self.assertEqual(len(answered), 5 if name == "state" else 1)

    def test_every_call_takes_its_numbers(self):
        for name in NAMES:
            with self.subTest(name):
                calls = [NAMES.index(name)] + [LARGEST] * SIZES[name] + [0, 1, 2]
                self.assertEqual(split_answers(answers(calls))[1:], [[0]])


class SixtyCalls(unittest.TestCase):
    def test_of_each_size(self):
        self.assertEqual(run("begin 1 2", *["ahead"] * 59), [[0]] * 60)
        self.assertEqual(run(*["begin 4 4"] * 60), [[0]] * 60)
        self.assertEqual(run("begin 1 4", *["copies"] * 59), [[0]] + [[4, 0, 0, 0, 0, 0]] * 59)

    def test_of_five_numbers_each(self):
        calls = calls_of(",".join([f"deed {LARGEST} {LARGEST} {LARGEST} {LARGEST}"] * 60))
        self.assertEqual(len(calls), 300)
        self.assertEqual(answers(calls), [1, -61] * 60)

    def test_of_changes(self):
        sets = [f"set {at % 16}" for at in range(1, 49)]
        told = run("begin 4 4", *sets, *["back"] * 11)
        self.assertEqual(len(told), 60)
        self.assertEqual(told[1:49], [[at % 16] for at in range(48)])
        self.assertEqual(told[49:], [[9], [8], [7], [6], [5], [4], [3], [2], [1], [0], [-2]])

    def test_in_any_order_with_four_facts_four_copies_and_six_deeds(self):
        chance = random.Random(12)
        begun = ["begin 4 4"] + [f"deed {' '.join(map(str, some_deed(chance, 4)))}" for number in range(6)]
        for turn in range(40):
            texts = begun + [self.some_call(chance) for number in range(53)]
            chance.shuffle(texts)
            line = ",".join(texts)
            calls = calls_of(line)
            kept = list(calls)
            self.assertLessEqual(len(calls), 300)
            given = answers(calls)
            self.assertEqual((calls, answers(calls)), (kept, given))
            model = Line()
            self.assertEqual(split_answers(given), [model.answer(*named(text)) for text in texts])

    def some_call(self, chance):
        name = chance.choice(NAMES[1:])
        return " ".join([name] + [str(chance.choice((0, 0, 1, 1, 2, 3, 4, 5, 6, 7, 9, 15, LARGEST)))
                                  for number in range(SIZES[name])])

    def test_of_every_look_with_six_deeds(self):
        deeds = ["deed 0 0 1 0", "deed 0 0 2 0", "deed 0 0 4 0", "deed 0 0 8 0", "deed 15 15 0 3", "deed 15 15 0 12"]
        for rule in (65535, 65535 - 32768, 65535 - 64, 23):
            for name in LOOKS:
                look = " ".join([name] + ["3"] * SIZES[name])
                with self.subTest(look, rule=rule):
                    told = run("begin 4 4", *deeds, f"rule {rule}", *[look] * 52)
                    self.assertEqual(len(told), 60)
                    self.assertEqual(told[8:], told[8:9] * 52)

    def test_of_sets_that_are_asked_whether_they_are_free(self):
        # As much as can be asked of one line: six deeds by which every state is reached, 53 times.
        deeds = ["deed 0 0 1 0", "deed 0 0 2 0", "deed 0 0 4 0", "deed 0 0 8 0", "deed 0 0 0 3", "deed 0 0 0 12"]
        self.assertEqual(run("begin 4 4", *deeds, *["allow 63"] * 53)[7:], [[0]] + [[63]] * 52)


if __name__ == "__main__":
    unittest.main()
