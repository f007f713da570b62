"""Point 2: rule, deed, drop, allow, set and answer."""

import unittest

from lines import LARGEST, firsts, last, run

# Two facts, two copies, deed 0 makes fact 0 so, deed 1 makes fact 1 so.
TWO_DEEDS = "begin 2 2, deed 0 0 1 0, deed 0 0 2 0"
APART = f"{TWO_DEEDS}, allow 3, do 1 0"


class NotTogether(unittest.TestCase):
    def test_five_calls_are_refused(self):
        calls = "rule 15, deed 0 0 0 0, drop 0, allow 0, set 0"
        self.assertEqual(firsts(APART, calls)[5:], [-16] * 5)

    def test_ahead_of_all_else(self):
        calls = f"rule 16, rule {LARGEST}, rule 2, rule 0, deed 4 0 0 0, deed 0 1 0 0, drop 2, drop {LARGEST}, " \
                f"allow 4, allow {LARGEST}, set 4, set {LARGEST}"
        self.assertEqual(firsts(APART, calls)[5:], [-16] * 12)

    def test_ahead_of_too_many_deeds(self):
        six = ",".join(["begin 1 2"] + ["deed 0 0 1 0"] * 6 + ["allow 1", "do 0 0"])
        self.assertEqual(last(six, "deed 0 0 1 0"), [-16])

    def test_ahead_of_a_set_that_is_not_free_and_a_state_that_is_not_let(self):
        line = f"{TWO_DEEDS}, rule 7, allow 1, do 0 0"
        self.assertEqual(firsts(line, "allow 3, set 3")[6:], [-16, -16])

    def test_refused_they_change_nothing(self):
        calls = "rule 15, deed 0 0 0 0, drop 0, allow 0, set 0"
        self.assertEqual(run(APART, calls, "copies, do 0 1, ahead, back, back, back")[10:],
                         [[2, 0, 0, 1], [2], [3], [4], [3], [2]])

    def test_all_alike_but_not_with_the_common_state_is_not_together(self):
        self.assertEqual(firsts(APART, "do 0 0, set 0, gather, set 0")[5:], [1, -16, 1, 1])

    def test_together_again_by_a_deed(self):
        line = "begin 1 2, deed 0 0 1 0, deed 0 0 0 1, allow 0, rule 3, allow 3, do 0 0, set 1, do 0 1, set 1"
        self.assertEqual(firsts(line)[-4:], [1, -16, 0, 0])

    def test_a_deed_that_changes_nothing_leaves_them_together(self):
        self.assertEqual(firsts("begin 1 2, set 1, deed 0 0 1 0, allow 1, do 0 0, set 0"), [0, 0, 0, 0, 1, 1])

    def test_answer_is_taken_all_the_same(self):
        self.assertEqual(firsts(APART, "answer 0 7, answer 0 1, answer 4 1")[5:], [0, 7, -22])


class Rule(unittest.TestCase):
    def test_which_states_there_are(self):
        for facts in range(1, 5):
            above = 2 ** 2 ** facts
            with self.subTest(facts):
                self.assertEqual(firsts(f"begin {facts} 2, rule {above - 1}, rule {above}, rule {above + 1}, rule 1"),
                                 [0, 0, -22, -22, 0])

    def test_large_numbers(self):
        self.assertEqual(firsts(f"begin 4 4, rule {LARGEST}, rule 65537, rule 65535"), [0, -22, -22, 0])

    def test_the_common_state_has_to_be_let(self):
        self.assertEqual(firsts("begin 2 2, rule 14, rule 0, rule 1, rule 15, set 2, rule 11, rule 4"),
                         [0, -33, -33, 0, 0, 0, -33, 0])

    def test_other_states_are_told_ahead_of_that(self):
        self.assertEqual(firsts("begin 2 2, rule 16, rule 30"), [0, -22, -22])

    def test_that_is_the_rule(self):
        self.assertEqual(firsts("begin 2 2, rule 7, set 3, set 2, rule 12, set 0, set 1, set 3"),
                         [0, 0, -33, 0, 0, -33, -33, 2])

    def test_refused_the_rule_stays(self):
        self.assertEqual(firsts("begin 2 2, rule 7, rule 8, set 3, rule 31, set 3, set 2"),
                         [0, 0, -33, -33, -22, -33, 0])

    def test_behind_it_no_deeds_are_allowed(self):
        self.assertEqual(firsts(TWO_DEEDS, "allow 3, rule 15, do 0 0, do 0 1, allow 3")[3:], [0, 0, -35, -35, 0])

    def test_refused_deeds_stay_allowed(self):
        self.assertEqual(firsts(TWO_DEEDS, "allow 3, rule 16, rule 2, allow 3")[3:], [0, -22, -33, 3])


class DeedCall(unittest.TestCase):
    def test_their_numbers(self):
        self.assertEqual(firsts(",".join(["begin 1 2"] + ["deed 0 0 1 0"] * 8)), [0, 0, 1, 2, 3, 4, 5, -28, -28])

    def test_no_deed_is_told_ahead_of_six(self):
        six = ",".join(["begin 1 2"] + ["deed 0 0 1 0"] * 6)
        self.assertEqual(firsts(six, "deed 2 0 0 0, deed 0 1 0 0, deed 0 0 1 1, deed 0 0 0 0")[7:],
                         [-22, -22, -22, -28])

    def test_other_facts(self):
        for facts in range(1, 5):
            other = 2 ** facts
            with self.subTest(facts):
                self.assertEqual(firsts(f"begin {facts} 2, deed {other} 0 0 0, deed {other} {other} 0 0, "
                                        f"deed 0 0 {other} 0, deed 0 0 0 {other}, deed {other - 1} {other - 1} 0 "
                                        f"{other - 1}, deed {other - 1} 0 {other - 1} 0"),
                                 [0, -22, -22, -22, -22, 0, 1])

    def test_large_numbers(self):
        self.assertEqual(firsts(f"begin 4 4, deed {LARGEST} 0 0 0, deed {LARGEST} {LARGEST} 0 0, deed 0 0 {LARGEST} 0, "
                                f"deed 0 0 0 {LARGEST}, deed 15 {LARGEST} 0 0"), [0] + [-22] * 5)

    def test_the_second_lies_in_the_first(self):
        for need in range(4):
            for be in range(4):
                with self.subTest(need=need, be=be):
                    told = 0 if all(need >> fact & 1 or not be >> fact & 1 for fact in range(2)) else -22
                    self.assertEqual(last(f"begin 2 2, deed {need} {be} 0 0"), [told])

    def test_no_fact_is_in_third_and_fourth(self):
        for on in range(4):
            for off in range(4):
                with self.subTest(on=on, off=off):
                    told = -22 if any(on >> fact & off >> fact & 1 for fact in range(2)) else 0
                    self.assertEqual(last(f"begin 2 2, deed 0 0 {on} {off}"), [told])

    def test_what_it_needs_may_be_what_it_changes(self):
        self.assertEqual(firsts("begin 2 2, deed 3 1 2 1, set 1, ask 0, ask 0"), [0, 0, 0, 2, -6])

    def test_refused_there_is_no_more(self):
        self.assertEqual(firsts("begin 2 2, deed 0 1 0 0, ask 0, drop 0, deed 0 0 1 0"), [0, -22, -2, -2, 0])

    def test_behind_it_no_deeds_are_allowed(self):
        self.assertEqual(firsts(TWO_DEEDS, "allow 3, deed 0 0 3 0, do 0 0, allow 7")[3:], [0, 2, -35, 0])

    def test_refused_deeds_stay_allowed(self):
        self.assertEqual(firsts(TWO_DEEDS, "allow 3, deed 4 0 0 0, allow 3")[3:], [0, -22, 3])


class Drop(unittest.TestCase):
    def test_how_many_there_are(self):
        self.assertEqual(firsts(TWO_DEEDS, "drop 0, drop 0, drop 0")[3:], [1, 0, -2])

    def test_there_is_no_such_deed(self):
        self.assertEqual(firsts(TWO_DEEDS, f"drop 2, drop 6, drop {LARGEST}, drop 1")[3:], [-2, -2, -2, 1])

    def test_those_behind_are_numbered_one_less(self):
        line = "begin 2 2, deed 0 0 1 0, deed 0 0 2 0, deed 0 0 3 0"
        asked = "ask 0, set 0, ask 1, set 0, ask 2"
        self.assertEqual(firsts(line, "drop 0", asked)[4:], [2, 2, 2, 3, 3, -2])
        self.assertEqual(firsts(line, "drop 1", asked)[4:], [2, 1, 1, 3, 3, -2])
        self.assertEqual(firsts(line, "drop 2", asked)[4:], [2, 1, 1, 2, 2, -2])

    def test_another_is_numbered_behind_them(self):
        self.assertEqual(firsts(TWO_DEEDS, "drop 0, deed 0 0 3 0, ask 0, set 0, ask 1")[3:], [1, 1, 2, 2, 3])

    def test_one_goes_and_a_sixth_is_taken_again(self):
        six = ",".join(["begin 1 2"] + ["deed 0 0 1 0"] * 6)
        self.assertEqual(firsts(six, "drop 5, deed 0 0 1 0, deed 0 0 1 0")[7:], [5, 5, -28])

    def test_behind_it_no_deeds_are_allowed(self):
        self.assertEqual(firsts(TWO_DEEDS, "allow 3, drop 1, do 0 0, allow 1")[3:], [0, 1, -35, 0])
        self.assertEqual(firsts(TWO_DEEDS, "allow 1, drop 1, do 0 0, allow 1")[3:], [0, 1, -35, 0])

    def test_refused_deeds_stay_allowed(self):
        self.assertEqual(firsts(TWO_DEEDS, "allow 3, drop 2, allow 3")[3:], [0, -2, 3])


class Allow(unittest.TestCase):
    def test_other_deeds(self):
        self.assertEqual(firsts("begin 2 2, allow 1, allow 0"), [0, -22, 0])
        self.assertEqual(firsts(TWO_DEEDS, f"allow 4, allow 7, allow {LARGEST}, allow 3")[3:], [-22, -22, -22, 0])

    def test_which_were(self):
        self.assertEqual(firsts(TWO_DEEDS, "allow 3, allow 1, allow 2, allow 0, allow 0")[3:], [0, 3, 1, 2, 0])

    def test_just_these_are_allowed(self):
        for chosen in range(4):
            with self.subTest(chosen):
                told = [1 if chosen & 1 else -35, 2 if chosen & 2 else -35]
                self.assertEqual(firsts(TWO_DEEDS, f"allow 3, allow {chosen}, do 0 0, do 1 1")[5:], told)

    def test_only_together_they_break_the_rule(self):
        # Both facts at once are not let: each deed by itself is free, the two are not.
        line = f"{TWO_DEEDS}, rule 7"
        self.assertEqual(firsts(line, "allow 1, allow 2, allow 3, allow 0")[4:], [0, 1, -33, 2])

    def test_other_deeds_are_told_ahead_of_not_free(self):
        self.assertEqual(last(TWO_DEEDS, "rule 7, allow 7"), [-22])

    def test_refused_what_was_allowed_stays(self):
        line = f"{TWO_DEEDS}, rule 7, allow 1"
        self.assertEqual(firsts(line, "allow 3, allow 4, do 0 1, do 0 0")[5:], [-33, -22, -35, 1])

    def test_from_any_state_that_is_let_not_the_common_one_alone(self):
        # At 0 both deeds lack what they need; from 4 on they would break the rule together.
        line = "begin 3 2, deed 4 4 1 0, deed 4 4 2 0, rule 127"
        self.assertEqual(firsts(line, "allow 3, allow 1, set 4, allow 3")[4:], [-33, 0, 0, -33])

    def test_states_that_are_not_let_are_no_beginning(self):
        # Only from 4 on would the rule be broken, and 4 isn't let.
        line = "begin 3 2, deed 4 4 1 0, deed 4 4 2 0"
        self.assertEqual(last(line, "rule 111, allow 3"), [0])
        self.assertEqual(last(line, "rule 127, allow 3"), [-33])

    def test_a_deed_with_itself(self):
        # Copies of one deed change the same facts, so one deed that does not lead on is always free.
        for rule in range(1, 16, 2):
            with self.subTest(rule):
                self.assertEqual(last(f"begin 2 2, rule {rule}, deed 0 0 3 0, allow 1"), [0])

    def test_deeds_one_behind_another(self):
        # From 0 to 1, to 3, to 2, and by another deed to 4; of 1 and 2 with 4 what's put together is let, of 3 not.
        line = "begin 3 2, rule 127, deed 7 0 1 0, deed 7 1 2 0, deed 7 3 0 1, deed 7 0 4 0"
        self.assertEqual(firsts(line, "allow 7, allow 9, allow 13, allow 11")[6:], [0, 7, 9, -33])

    def test_over_a_step_that_another_copy_does_not_take(self):
        # From 0 to 1, to 3, to 2; fact 0 is then as it was, so 2 alone was changed: with 4 that is 6.
        line = "begin 3 2, deed 7 0 1 0, deed 7 1 2 0, deed 7 3 0 1, deed 7 0 4 0"
        self.assertEqual(last(line, "rule 191, allow 15"), [-33])
        self.assertEqual(last(line, "rule 191, allow 11"), [0])

    def test_on_the_way_only_states_that_are_let(self):
        # 3 would be reached over 1 alone, which is not let; so it does not meet 4 in 7, which isn't let either.
        line = "begin 3 2, deed 7 0 1 0, deed 7 1 2 0, deed 7 0 4 0"
        self.assertEqual(last(line, f"rule {127 - 2 - 32}, allow 7"), [0])
        self.assertEqual(last(line, f"rule {127 - 32}, allow 7"), [-33])

    def test_a_deed_may_lead_back(self):
        # Fact 0 goes as easily as it comes: from 1, one copy goes to 0 and the other to 3; together that is 2.
        line = "begin 2 2, deed 0 0 2 0, deed 3 1 0 1"
        self.assertEqual(last(line, "rule 11, allow 3"), [-33])
        self.assertEqual(last(line, "rule 15, allow 3"), [0])

    def test_three_copies_are_needed_though_there_are_two(self):
        # Any two of the three deeds are let together, all three are not: three facts ask for three copies.
        line = "begin 3 2, deed 7 0 1 0, deed 7 0 2 0, deed 7 0 4 0, rule 127"
        self.assertEqual(firsts(line, "allow 3, allow 5, allow 6, allow 7")[5:], [0, 3, 5, -33])

    def test_four_copies_are_needed_though_there_are_two(self):
        line = "begin 4 2, deed 15 0 1 0, deed 15 0 2 0, deed 15 0 4 0, deed 15 0 8 0, rule 32767"
        self.assertEqual(firsts(line, "allow 7, allow 11, allow 13, allow 14, allow 15")[6:], [0, 7, 11, 13, -33])

    def test_refused_behind_a_deed_that_is_not_chosen(self):
        # Whether a set is free is asked of its own deeds alone.
        line = f"{TWO_DEEDS}, deed 0 0 0 0, rule 7"
        self.assertEqual(firsts(line, "allow 5, allow 6, allow 7")[5:], [0, 5, -33])


class Set(unittest.TestCase):
    def test_other_facts(self):
        for facts in range(1, 5):
            with self.subTest(facts):
                self.assertEqual(firsts(f"begin {facts} 2, set {2 ** facts}, set {LARGEST}, set {2 ** facts - 1}"),
                                 [0, -22, -22, 0])

    def test_a_state_that_is_not_let(self):
        self.assertEqual(firsts("begin 2 2, rule 5, set 1, set 3, set 2, set 4"), [0, 0, -33, -33, 0, -22])

    def test_what_the_common_one_was(self):
        self.assertEqual(firsts("begin 2 3, set 3, set 2, set 2, set 0"), [0, 0, 3, 2, 2])

    def test_that_is_the_common_state_and_all_copies(self):
        self.assertEqual(run("begin 2 3, set 2, copies, ahead, differ")[2:], [[3, 2, 2, 2, 2], [2], [0]])

    def test_refused_it_changes_nothing(self):
        self.assertEqual(run("begin 2 3, rule 7, set 2, set 3, set 4, copies")[3:], [[-33], [-22], [3, 2, 2, 2, 2]])

    def test_deeds_stay_allowed(self):
        self.assertEqual(firsts(TWO_DEEDS, "allow 3, set 1, allow 3")[3:], [0, 0, 3])


class Answer(unittest.TestCase):
    def test_other_facts(self):
        for facts in range(1, 5):
            with self.subTest(facts):
                self.assertEqual(firsts(f"begin {facts} 2, answer {2 ** facts} 0, answer {LARGEST} 0, "
                                        f"answer {2 ** facts - 1} 0"), [0, -22, -22, 0])

    def test_what_is_above_seven(self):
        self.assertEqual(firsts(f"begin 1 2, answer 0 7, answer 0 8, answer 0 15, answer 0 {LARGEST}, "
                                f"answer {LARGEST} {LARGEST}, answer 0 0"), [0, 0, -22, -22, -22, -22, 7])

    def test_what_was(self):
        self.assertEqual(firsts("begin 2 2, answer 3 5, answer 3 2, answer 0 1, answer 3 0, answer 0 0, answer 1 4, "
                                "answer 2 0, answer 1 0"), [0, 0, 5, 0, 2, 1, 0, 0, 4])

    def test_of_a_state_that_is_not_let(self):
        self.assertEqual(firsts("begin 1 2, rule 1, answer 1 3, answer 1 0"), [0, 0, 0, 3])

    def test_nothing_else_changes(self):
        self.assertEqual(run(APART, "answer 1 7, copies, do 0 1")[5:], [[0], [2, 0, 0, 1], [2]])

    def test_a_rule_told_anew_leaves_what_was_told(self):
        self.assertEqual(firsts("begin 1 2, answer 1 3, rule 3, set 1, gather, answer 1 0")[5:], [3])


if __name__ == "__main__":
    unittest.main()
