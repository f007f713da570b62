"""The corners that the document lists, as far as the calls reach them."""

import unittest

from lines import firsts, run


class Corners(unittest.TestCase):
    def test_no_deeds_allowed(self):
        line = "begin 2 3, deed 0 0 1 0, deed 0 0 2 0"
        self.assertEqual(firsts(line, "do 0 0, do 1 1, allow 0, do 2 0, differ, gather, ask 1, gather")[3:],
                         [-35, -35, 0, -35, 0, 0, 2, 2])

    def test_no_deeds_allowed_by_any_rule(self):
        for rule in range(1, 16, 2):
            with self.subTest(rule):
                self.assertEqual(firsts(f"begin 2 2, deed 0 0 1 0, deed 0 0 2 0, rule {rule}, allow 0")[3:], [0, 0])

    def test_all_deeds_allowed(self):
        six = "deed 0 0 1 0, deed 0 0 2 0, deed 0 0 4 0, deed 0 0 8 0, deed 0 0 15 0, deed 0 0 0 15"
        self.assertEqual(firsts("begin 4 4", six, "allow 63, do 0 0, do 1 1, do 2 2, do 3 3, ahead, do 0 4, do 0 5, "
                                "ahead, gather, allow 0")[7:], [0, 1, 2, 4, 8, 15, 15, 0, 14, 14, 63])

    def test_all_of_six_where_they_are_not_free(self):
        six = "deed 0 0 1 0, deed 0 0 2 0, deed 0 0 4 0, deed 0 0 8 0, deed 0 0 15 0, deed 0 0 0 15"
        self.assertEqual(firsts("begin 4 4", six, "rule 65531, allow 63, allow 48, allow 16")[8:], [-33, -33, 0])

    def test_a_deed_asked_for_while_copies_differ(self):
        line = "begin 3 3, deed 0 0 1 0, deed 0 0 2 0, deed 3 3 4 3, allow 3, do 0 0, do 1 1"
        self.assertEqual(run(line, "ask 2, copies, back, copies")[7:],
                         [[4], [3, 4, 4, 4, 4], [6], [3, 0, 1, 2, 0]])

    def test_two_copies_that_did_the_same(self):
        line = "begin 2 4, deed 3 0 1 0, allow 1, do 0 0, do 3 0"
        self.assertEqual(run(line, "differ, ahead, gather, do 1 0, copies")[5:],
                         [[2, 0, 3], [1], [1], [-6], [4, 1, 1, 1, 1, 1]])

    def test_a_rule_told_anew_that_forbids_the_common_state(self):
        line = "begin 2 2, deed 0 0 1 0, rule 3, allow 1, do 0 0, gather"
        self.assertEqual(run(line, "rule 13, rule 1, copies, do 1 0, set 2, set 0, rule 13, do 0 0, ask 0, set 1")[6:],
                         [[-33], [-33], [2, 1, 1, 1], [1], [-33], [1], [0], [-35], [-33], [-33]])

    def test_taken_back_to_where_they_differed(self):
        line = "begin 2 2, deed 0 0 1 0, deed 0 0 2 0, allow 3, do 0 0, do 1 1, ask 0, rule 12"
        self.assertEqual(run(line, "rule 15, rule 8, back, back, back, back, copies, differ, gather")[8:],
                         [[0], [0], [8], [7], [6], [5], [2, 0, 1, 2], [2, 0, 1], [3]])

    def test_eleven_changes_of_all_kinds(self):
        line = "begin 1 2, answer 0 1, rule 3, deed 0 0 1 0, deed 1 1 0 1, allow 3, do 0 0, do 1 0, do 1 1, gather, " \
               "ask 1, drop 0"
        self.assertEqual(firsts(line)[1:], [0, 0, 0, 1, 0, 1, 1, 0, 1, 0, 1])
        self.assertEqual(firsts(line, ",".join(["back"] * 11), "answer 0 0, ask 0")[12:],
                         [9, 8, 7, 6, 5, 4, 3, 2, 1, 0, -2, 1, -2])

    def test_four_copies_of_one_fact(self):
        line = "begin 1 4, deed 1 0 1 0, deed 1 1 0 1, allow 3"
        self.assertEqual(run(line, "do 0 0, do 1 0, do 2 0, do 3 0, ahead, do 3 1, ahead, gather, do 0 1, do 2 1, "
                             "copies, gather")[4:],
                         [[1]] * 5 + [[0], [1], [1], [0], [0], [4, 1, 0, 1, 0, 1], [0]])

    def test_of_one_fact_every_set_is_free(self):
        # With one fact one copy is enough to ask, and a copy never comes to what isn't let.
        deeds = "deed 0 0 1 0, deed 0 0 0 1, deed 1 1 0 1, deed 1 0 1 0"
        for rule in (1, 3):
            for chosen in range(16):
                with self.subTest(rule=rule, chosen=chosen):
                    self.assertEqual(firsts("begin 1 4", deeds, f"rule {rule}, allow {chosen}")[6:], [0])


if __name__ == "__main__":
    unittest.main()
