"""The corners that the document lists."""

import unittest

from lines import firsts, last, run


class Corners(unittest.TestCase):
    def test_no_deeds_allowed(self):
        line = "begin 2 3, deed 0 0 1 0, deed 0 0 2 0"
        self.assertEqual(firsts(line, "do 0 0, do 1 1, allow 0, do 2 0, differ, gather, ask 1, gather")[3:],
                         [-35, -35, 0, -35, 0, 0, 2, 2])

    def test_no_deeds_allowed_by_any_rule(self):
        for rule in range(1, 16, 2):
            with self.subTest(rule):
                self.assertEqual(firsts(f"begin 2 2, deed 0 0 1 0, deed 0 0 2 0, rule {rule}, allow 0")[3:], [0, 0])

    def test_all_deeds_allowed(self):
        six = "deed 0 0 1 0, deed 0 0 2 0, deed 0 0 4 0, deed 0 0 8 0, deed 0 0 15 0, deed 0 0 0 15"
        self.assertEqual(firsts("begin 4 4", six, "allow 63, do 0 0, do 1 1, do 2 2, do 3 3, ahead, do 0 4, do 0 5, "
                                "ahead, gather, allow 0")[7:], [0, 1, 2, 4, 8, 15, 15, 0, 14, 14, 63])

    def test_all_of_six_where_they_are_not_free(self):
        six = "deed 0 0 1 0, deed 0 0 2 0, deed 0 0 4 0, deed 0 0 8 0, deed 0 0 15 0, deed 0 0 0 15"
        self.assertEqual(firsts("begin 4 4", six, "rule 65531, allow 63, allow 48, allow 16")[8:], [-33, -33, 0])

    def test_a_deed_asked_for_while_copies_differ(self):
        line = "begin 3 3, deed 0 0 1 0, deed 0 0 2 0, deed 3 3 4 3, allow 3, do 0 0, do 1 1"
        self.assertEqual(run(line, "ask 2, copies, back, copies")[7:],
                         [[4], [3, 4, 4, 4, 4], [6], [3, 0, 1, 2, 0]])

    def test_two_copies_that_did_the_same(self):
        line = "begin 2 4, deed 3 0 1 0, allow 1, do 0 0, do 3 0"
        self.assertEqual(run(line, "differ, ahead, gather, do 1 0, copies")[5:],
                         [[2, 0, 3], [1], [1], [-6], [4, 1, 1, 1, 1, 1]])

    def test_a_rule_told_anew_that_forbids_the_common_state(self):
        line = "begin 2 2, deed 0 0 1 0, rule 3, allow 1, do 0 0, gather"
        self.assertEqual(run(line, "rule 13, rule 1, copies, do 1 0, set 2, set 0, rule 13, do 0 0, ask 0, set 1")[6:],
                         [[-33], [-33], [2, 1, 1, 1], [1], [-33], [1], [0], [-35], [-33], [-33]])

    def test_taken_back_to_where_they_differed(self):
        line = "begin 2 2, deed 0 0 1 0, deed 0 0 2 0, allow 3, do 0 0, do 1 1, ask 0, rule 12"
        self.assertEqual(run(line, "rule 15, rule 8, back, back, back, back, copies, differ, gather")[8:],
                         [[0], [0], [8], [7], [6], [5], [2, 0, 1, 2], [2, 0, 1], [3]])

    def test_eleven_changes_of_all_kinds(self):
        line = "begin 1 2, answer 0 1, rule 3, deed 0 0 1 0, deed 1 1 0 1, allow 3, do 0 0, do 1 0, do 1 1, gather, " \
               "ask 1, drop 0"
        self.assertEqual(firsts(line)[1:], [0, 0, 0, 1, 0, 1, 1, 0, 1, 0, 1])
        self.assertEqual(firsts(line, ",".join(["back"] * 11), "answer 0 0, ask 0")[12:],
                         [9, 8, 7, 6, 5, 4, 3, 2, 1, 0, -2, 1, -2])

    def test_four_copies_of_one_fact(self):
        line = "begin 1 4, deed 1 0 1 0, deed 1 1 0 1, allow 3"
        self.assertEqual(run(line, "do 0 0, do 1 0, do 2 0, do 3 0, ahead, do 3 1, ahead, gather, do 0 1, do 2 1, "
                             "copies, gather")[4:],
                         [[1]] * 5 + [[0], [1], [1], [0], [0], [4, 1, 0, 1, 0, 1], [0]])

    def test_of_one_fact_every_set_is_free(self):
        # With one fact one copy is enough to ask, and a copy never comes to what isn't let.
        deeds = "deed 0 0 1 0, deed 0 0 0 1, deed 1 1 0 1, deed 1 0 1 0"
        for rule in (1, 3):
            for chosen in range(16):
                with self.subTest(rule=rule, chosen=chosen):
                    self.assertEqual(firsts("begin 1 4", deeds, f"rule {rule}, allow {chosen}")[6:], [0])


class CornersAsTheyAreSeen(unittest.TestCase):
    def test_no_deeds_allowed(self):
        line = "begin 2 3, deed 0 0 1 0, deed 0 0 2 0, answer 0 5, answer 3 7"
        self.assertEqual(run(line, "can_do 0, can_ask, reach 1, may_come 2, told 0, sure 0, may 0, state")[5:],
                         [[0], [2, 0, 1], [1, 0], [1, 0], [5], [5], [5], [2, 3, 15, 2, 0]])

    def test_all_allowed(self):
        six = "deed 0 0 1 0, deed 0 0 2 0, deed 0 0 4 0, deed 0 0 8 0, deed 0 0 15 0, deed 0 0 0 15"
        every = [16] + list(range(16))
        self.assertEqual(run("begin 4 4", six, "allow 63, can_do 3, reach 0, may_come 1, state, most_free, asked")[8:],
                         [[6, 0, 1, 2, 3, 4, 5], every, every, [4, 4, 65535, 6, 63], [1, 63], [0, 0]])
        # Copy 0 changed every fact there is, so whatever the others do, that comes.
        self.assertEqual(run("begin 4 4", six, "allow 63, do 0 4, may_come 0, may_come 1, reach 0")[9:],
                         [[1, 15], every, every])

    def test_a_deed_asked_for_while_copies_differ(self):
        line = "begin 3 3, deed 0 0 1 0, deed 0 0 2 0, deed 3 3 4 3, allow 3, answer 4 2, do 0 0, do 1 1"
        self.assertEqual(run(line, "can_ask, sure 0, ask 2, told 2, sure 2, may_come 0, can_do 1, can_ask")[8:],
                         [[3, 0, 1, 2], [0], [4], [2], [0], [4, 4, 5, 6, 7], [2, 0, 1], [2, 0, 1]])

    def test_two_copies_that_did_the_same(self):
        line = "begin 2 4, deed 3 0 1 0, deed 3 0 2 0, allow 3, do 0 0, do 3 0"
        self.assertEqual(run(line, "may_come 0, may_come 3, may_come 1, reach 0, can_do 3, clashes")[6:],
                         [[2, 1, 3], [2, 1, 3], [4, 0, 1, 2, 3], [1, 1], [0], [0]])

    def test_what_is_sure_by_one_copy_and_not_by_another(self):
        line = "begin 2 3, deed 0 0 1 0, deed 0 0 2 0, allow 3, answer 1 1, answer 3 3, answer 2 2, do 0 0, do 1 1"
        self.assertEqual(firsts(line, "sure 0, sure 1, sure 2, may 0, may 1, may 2")[9:], [1, 2, 0, 3, 3, 3])
        self.assertEqual(firsts(line, "gather, sure 0, sure 1, sure 2")[9:], [3, 3, 3, 3])

    def test_a_rule_told_anew_that_forbids_the_common_state(self):
        line = "begin 2 2, deed 0 0 1 0, allow 1, ask 0"
        self.assertEqual(run(line, "state, rule 13, state, reach 0, closed, rule 3, state")[4:],
                         [[2, 2, 15, 1, 1], [-33], [2, 2, 15, 1, 1], [1, 1], [1], [0], [2, 2, 3, 1, 0]])

    def test_taken_back_to_where_they_differed(self):
        line = "begin 2 2, deed 0 0 1 0, deed 0 0 2 0, allow 3, answer 1 1, answer 3 1, do 0 0"
        looks = "sure 0, sure 1, may_come 0, can_do 1, reach 0, state"
        there = [[1], [0], [2, 1, 3], [2, 0, 1], [2, 1, 3], [2, 2, 15, 2, 3]]
        self.assertEqual(run(line, looks)[7:], there)
        self.assertEqual(run(line, "gather, rule 14, drop 1, back, back, back", looks)[13:], there)

    def test_eleven_changes(self):
        answers = ",".join(f"answer 0 {number % 8}" for number in range(1, 12))
        self.assertEqual(firsts("begin 1 2", answers, "told 0", ",".join(["back"] * 11), "told 0")[12:],
                         [3, 9, 8, 7, 6, 5, 4, 3, 2, 1, 0, -2, 1])

    def test_four_copies_of_one_fact(self):
        line = "begin 1 4, deed 1 0 1 0, deed 1 1 0 1, allow 3, answer 1 4"
        self.assertEqual(run(line, "do 2 0, may_come 2, may_come 0, sure 2, sure 0, may 0, can_do 2, can_do 0")[5:],
                         [[1], [1, 1], [2, 0, 1], [4], [0], [4], [1, 1], [1, 0]])
        self.assertEqual(run(line, "keeps 4, broken 4, fewest, closed, most_free, asked")[5:],
                         [[1], [-33], [-33], [1], [1, 3], [0, 0]])
        self.assertEqual(last("begin 1 4, deed 0 0 1 0, deed 0 0 0 1, rule 1, broken 4"), [-33])


if __name__ == "__main__":
    unittest.main()
