"""Point 4: the looks at the copies."""

import unittest

from lines import LARGEST, firsts, last, run, seen

READY = "begin 2 4, deed 0 0 1 0, deed 0 0 2 0, deed 1 1 0 1, allow 7"


class Looks(unittest.TestCase):
    def looks(self, *lines):
        return run(READY, *lines, "copies, ahead, differ")[-3:]

    def test_together(self):
        self.assertEqual(self.looks(), [[4, 0, 0, 0, 0, 0], [0], [0]])
        self.assertEqual(self.looks("set 3"), [[4, 3, 3, 3, 3, 3], [3], [0]])

    def test_one_differs(self):
        for copy in range(4):
            with self.subTest(copy):
                states = [0] * 4
                states[copy] = 2
                self.assertEqual(self.looks(f"do {copy} 1"), [[4, 0] + states, [2], [1, copy]])

    def test_several_differ(self):
        self.assertEqual(self.looks("do 3 0, do 1 1"), [[4, 0, 0, 2, 0, 1], [3], [2, 1, 3]])
        self.assertEqual(self.looks("do 2 1, do 0 0"), [[4, 0, 1, 0, 2, 0], [3], [2, 0, 2]])

    def test_all_differ(self):
        self.assertEqual(self.looks("do 0 0, do 1 0, do 2 0, do 3 0"), [[4, 0, 1, 1, 1, 1], [1], [4, 0, 1, 2, 3]])

    def test_from_another_common_state(self):
        self.assertEqual(self.looks("set 1, do 0 2, do 1 1, do 2 1, do 2 2"),
                         [[4, 1, 0, 3, 2, 1], [2], [3, 0, 1, 2]])

    def test_back_at_the_common_state_a_copy_does_not_differ(self):
        self.assertEqual(self.looks("do 0 0, do 0 2, do 1 0"), [[4, 0, 0, 1, 0, 0], [1], [1, 1]])

    def test_ahead_of_facts_that_go_and_facts_that_come(self):
        self.assertEqual(self.looks("set 1, do 0 2, do 3 1"), [[4, 1, 0, 1, 1, 3], [2], [2, 0, 3]])

    def test_how_many_copies_there_are(self):
        for copies in range(2, 5):
            with self.subTest(copies):
                self.assertEqual(run(f"begin 3 {copies}, set 5, copies")[-1], [copies, 5] + [5] * copies)

    def test_looking_changes_nothing(self):
        line = f"{READY}, do 0 0, do 1 1, back"
        looked = run(line, "copies, ahead, differ, copies, ahead, differ, again, copies, back, back")[8:]
        self.assertEqual(looked, [[4, 0, 1, 0, 0, 0], [1], [1, 0]] * 2 + [[0], [4, 0, 1, 2, 0, 0], [5], [4]])


class NoSuchCopy(unittest.TestCase):
    CALLS = ("can_do", "reach", "told", "sure", "may", "may_come")

    def test_it_is_refused(self):
        for name in self.CALLS:
            for copies in range(2, 5):
                with self.subTest(name, copies=copies):
                    calls = f"{name} {copies}, {name} {copies + 1}, {name} {LARGEST}"
                    self.assertEqual(run(f"begin 2 {copies}", calls)[1:], [[-2]] * 3)
                    self.assertGreaterEqual(last(f"begin 2 {copies}, {name} {copies - 1}")[0], 0)

    def test_while_copies_differ(self):
        for name in self.CALLS:
            with self.subTest(name):
                self.assertEqual(last(READY, f"do 0 0, do 3 1, {name} 4"), [-2])

    def test_refused_nothing_changes(self):
        line = f"{READY}, do 0 0, do 1 1, back"
        refused = ",".join(f"{name} 4" for name in self.CALLS)
        self.assertEqual(seen(f"{line}, {refused}", 4), seen(line, 4))
        self.assertEqual(last(line, refused, "again"), [0])


class CanDo(unittest.TestCase):
    def test_what_it_needs(self):
        self.assertEqual(run(READY, "can_do 0, do 0 0, can_do 0, can_do 1")[5:],
                         [[2, 0, 1], [1], [3, 0, 1, 2], [2, 0, 1]])

    def test_only_what_is_allowed(self):
        for chosen in range(8):
            with self.subTest(chosen):
                told = [number for number in range(2) if chosen >> number & 1]
                self.assertEqual(last(READY, f"allow {chosen}, can_do 2"), [len(told)] + told)

    def test_no_deeds(self):
        self.assertEqual(last("begin 3 2, can_do 1"), [0])

    def test_what_comes_has_to_be_let(self):
        line = "begin 2 2, deed 0 0 1 0, deed 1 1 2 0, rule 7, allow 3"
        self.assertEqual(run(line, "can_do 0, do 0 0, can_do 0, do 0 1")[5:], [[1, 0], [1], [1, 0], [-33]])

    def test_a_deed_that_changes_nothing_is_done_all_the_same(self):
        self.assertEqual(run("begin 1 2, deed 0 0 0 0, deed 0 0 0 1, allow 3, can_do 0, do 0 0, do 0 1")[4:],
                         [[2, 0, 1], [0], [0]])

    def test_at_the_copy_not_ahead(self):
        line = "begin 2 2, deed 0 0 1 0, deed 1 1 2 0, allow 3, do 0 0"
        self.assertEqual(run(line, "can_do 0, can_do 1, can_ask")[5:], [[2, 0, 1], [1, 0], [2, 0, 1]])

    def test_all_of_six(self):
        six = ",".join(["deed 0 0 1 0"] * 6)
        self.assertEqual(last("begin 1 2", six, "allow 63, can_do 1"), [6, 0, 1, 2, 3, 4, 5])


class CanAsk(unittest.TestCase):
    def test_no_deed_has_to_be_allowed(self):
        self.assertEqual(last("begin 2 2, deed 0 0 1 0, deed 0 0 2 0, deed 1 1 0 1, can_ask"), [2, 0, 1])

    def test_no_deeds(self):
        self.assertEqual(last("begin 3 2, can_ask"), [0])

    def test_what_it_needs_is_asked_of_what_lies_ahead(self):
        line = "begin 2 2, deed 0 0 1 0, deed 0 0 2 0, deed 3 3 0 3, deed 3 1 2 0, allow 3"
        self.assertEqual(run(line, "can_ask, do 0 0, can_ask, do 1 1, can_ask")[6:],
                         [[2, 0, 1], [1], [3, 0, 1, 3], [2], [3, 0, 1, 2]])

    def test_what_comes_there_has_to_be_let(self):
        # 5 and 6 are let, 7 is not: with both facts ahead deed 2 can't be asked for any more.
        line = "begin 3 2, deed 4 0 1 0, deed 4 0 2 0, deed 0 0 4 0, rule 127, allow 3, do 0 0"
        self.assertEqual(run(line, "can_ask, do 1 1, can_ask, ask 2")[7:], [[3, 0, 1, 2], [2], [2, 0, 1], [-33]])

    def test_a_deed_that_is_not_allowed_and_not_free(self):
        line = "begin 2 2, deed 0 0 1 0, deed 0 0 2 0, rule 7, allow 1"
        self.assertEqual(run(line, "can_ask, do 0 0, can_ask")[5:], [[2, 0, 1], [1], [1, 0]])


class Reach(unittest.TestCase):
    def test_its_own_state_alone(self):
        self.assertEqual(run("begin 2 2, reach 0, set 2, reach 1")[1:], [[1, 0], [0], [1, 2]])
        self.assertEqual(last("begin 2 2, deed 0 0 1 0, set 2, reach 1"), [1, 2])

    def test_by_deeds_one_behind_another(self):
        self.assertEqual(last("begin 3 2, deed 7 0 4 0, deed 7 4 2 0, deed 7 6 0 4, allow 7, reach 0"), [4, 0, 2, 4, 6])

    def test_from_where_the_copy_is(self):
        line = "begin 2 2, deed 3 0 1 0, deed 3 1 2 0, allow 3, do 0 0"
        self.assertEqual(run(line, "reach 0, reach 1, do 0 1, reach 0")[5:], [[2, 1, 3], [3, 0, 1, 3], [3], [1, 3]])

    def test_by_allowed_deeds_alone(self):
        self.assertEqual(run(READY, "reach 0, allow 1, reach 0, allow 2, reach 0, allow 0, reach 0")[5:],
                         [[4, 0, 1, 2, 3], [7], [2, 0, 1], [1], [2, 0, 2], [2], [1, 0]])

    def test_only_over_what_is_let(self):
        # From 0 to 1, to 3; where 1 is not let there's no way to 3.
        line = "begin 2 2, deed 3 0 1 0, deed 3 1 2 0"
        self.assertEqual(last(line, "allow 3, reach 0"), [3, 0, 1, 3])
        self.assertEqual(last(line, "rule 13, allow 3, reach 0"), [1, 0])
        self.assertEqual(last(line, "rule 7, allow 3, reach 0"), [2, 0, 1])

    def test_all_sixteen(self):
        line = "begin 4 4, deed 0 0 1 0, deed 0 0 2 0, deed 0 0 4 0, deed 0 0 8 0, allow 15"
        self.assertEqual(last(line, "reach 3"), [16] + list(range(16)))


class ToldSureMay(unittest.TestCase):
    # Two facts, deeds that make each so, both allowed; of the states 0 to 3 these are told.
    LINE = "begin 2 2, deed 0 0 1 0, deed 0 0 2 0, allow 3, answer 0 1, answer 1 3, answer 2 5, answer 3 7"

    def test_nothing_at_first(self):
        for copies in range(2, 5):
            self.assertEqual(firsts(f"begin 4 {copies}, told 0, sure 0, may 0, told 1, sure 1, may 1"), [0] * 7)

    def test_told_of_the_state_of_the_copy(self):
        self.assertEqual(firsts(self.LINE, "told 0, do 0 0, told 0, told 1, do 0 1, told 0, do 1 1, told 1")[8:],
                         [1, 1, 3, 1, 3, 7, 2, 5])

    def test_told_anew(self):
        self.assertEqual(firsts(self.LINE, "answer 0 6, told 0, sure 0, may 1, back, told 1")[8:], [1, 6, 0, 7, 7, 1])

    def test_what_is_sure_and_what_may_be(self):
        # At 0 all four may come; at 1 or 2 those with that fact; at 3 that alone.
        self.assertEqual(firsts(self.LINE, "sure 0, may 0, do 0 0, sure 0, may 0, do 0 1, sure 0, may 0")[8:],
                         [1, 7, 1, 3, 7, 3, 7, 7])
        self.assertEqual(firsts(self.LINE, "do 1 1, sure 1, may 1, sure 0, may 0")[8:], [2, 5, 7, 1, 7])

    def test_sure_by_one_copy_and_not_by_another(self):
        line = "begin 2 2, deed 0 0 1 0, allow 1, answer 1 2, do 0 0"
        self.assertEqual(firsts(line, "sure 0, may 0, told 0, sure 1, may 1, told 1")[5:], [2, 2, 2, 0, 2, 0])

    def test_no_deeds_allowed(self):
        # Nobody does anything: what is told is sure.
        line = f"{self.LINE}, allow 0"
        for state, things in enumerate((1, 3, 5, 7)):
            with self.subTest(state):
                self.assertEqual(run(line, f"set {state}, told 1, sure 1, may 1, may_come 1")[10:],
                                 [[things]] * 3 + [[1, state]])

    def test_what_is_told_of_states_that_cannot_come_does_not_count(self):
        line = "begin 2 2, deed 0 0 1 0, allow 1, answer 0 1, answer 1 1, answer 2 6, answer 3 6"
        self.assertEqual(firsts(line, "sure 0, may 0")[7:], [1, 1])

    def test_what_others_did_is_not_known(self):
        line = f"{self.LINE}, do 1 0, do 1 1"
        self.assertEqual(run(line, "sure 0, may 0, may_come 0")[10:], [[1], [7], [4, 0, 1, 2, 3]])

    def test_gathered_it_starts_from_there(self):
        line = f"{self.LINE}, do 1 0, gather"
        self.assertEqual(run(line, "sure 0, may 0, may_come 0, told 0")[10:], [[3], [7], [2, 1, 3], [3]])

    def test_all_three_things(self):
        line = "begin 1 2, deed 0 0 1 0, allow 1"
        for first in range(8):
            for second in range(8):
                with self.subTest(first=first, second=second):
                    self.assertEqual(firsts(line, f"answer 0 {first}, answer 1 {second}, sure 0, may 0")[5:],
                                     [first & second, first | second])


class MayCome(unittest.TestCase):
    def test_nothing_else_than_is(self):
        self.assertEqual(last("begin 2 2, set 3, may_come 0"), [1, 3])

    def test_of_the_others_what_may_be_done_from_the_common_state(self):
        line = "begin 3 2, deed 7 0 1 0, deed 7 0 2 0, deed 7 0 4 0, allow 7"
        self.assertEqual(run(line, "may_come 0, do 0 0, may_come 0, may_come 1")[5:],
                         [[4, 0, 1, 2, 4], [1], [3, 1, 3, 5], [4, 0, 1, 2, 4]])

    def test_of_each_other_copy(self):
        # A copy does just one of the deeds: of two others two facts may come, of three all.
        deeds = "deed 7 0 1 0, deed 7 0 2 0, deed 7 0 4 0, allow 7"
        self.assertEqual(last("begin 3 2", deeds, "may_come 0"), [4, 0, 1, 2, 4])
        self.assertEqual(last("begin 3 3", deeds, "may_come 0"), [7, 0, 1, 2, 3, 4, 5, 6])
        self.assertEqual(last("begin 3 4", deeds, "may_come 0"), [8, 0, 1, 2, 3, 4, 5, 6, 7])

    def test_of_itself_as_it_is(self):
        # What it may do itself later is not among them.
        line = "begin 2 2, deed 0 0 1 0, allow 1, do 0 0, gather, set 0"
        self.assertEqual(run(line, "may_come 0, do 0 0, may_come 0, may_come 1")[6:],
                         [[2, 0, 1], [1], [1, 1], [2, 0, 1]])

    def test_what_it_took_away_stays_away(self):
        line = "begin 2 3, deed 1 1 0 1, deed 0 0 2 0, set 1, allow 3, do 2 0"
        self.assertEqual(run(line, "may_come 2, may_come 0")[6:], [[2, 0, 2], [4, 0, 1, 2, 3]])

    def test_by_allowed_deeds_alone(self):
        self.assertEqual(run(READY, "allow 1, may_come 0, allow 2, may_come 0, allow 0, may_come 0")[6::2],
                         [[2, 0, 1], [2, 0, 2], [1, 0]])

    def test_a_fact_that_comes_and_goes(self):
        line = "begin 1 2, deed 1 0 1 0, deed 1 1 0 1, allow 3"
        self.assertEqual(run(line, "may_come 0, do 0 0, may_come 0, do 0 1, may_come 0")[4:],
                         [[2, 0, 1], [1], [1, 1], [0], [2, 0, 1]])


class State(unittest.TestCase):
    def test_behind_begin(self):
        for facts in range(1, 5):
            for copies in range(2, 5):
                self.assertEqual(last(f"begin {facts} {copies}, state"), [facts, copies, 2 ** 2 ** facts - 1, 0, 0])

    def test_behind_rule_deed_drop_allow(self):
        line = "begin 2 3, rule 7, state, deed 0 0 1 0, state, deed 0 0 2 0, state, allow 2, state, drop 0, state, " \
               "allow 1, state, deed 0 0 0 0, state, allow 5, allow 3, state, rule 15, state"
        self.assertEqual([answered for answered in run(line) if len(answered) > 1],
                         [[2, 3, 7, 0, 0], [2, 3, 7, 1, 0], [2, 3, 7, 2, 0], [2, 3, 7, 2, 2], [2, 3, 7, 1, 0],
                          [2, 3, 7, 1, 1], [2, 3, 7, 2, 0], [2, 3, 7, 2, 3], [2, 3, 15, 2, 0]])

    def test_refused_it_stays(self):
        line = "begin 2 3, rule 7, deed 0 0 1 0, deed 0 0 2 0, allow 1"
        refused = "rule 8, rule 16, deed 4 0 0 0, drop 2, allow 3, allow 4, begin 5 5"
        self.assertEqual(last(line, refused, "state"), [2, 3, 7, 2, 1])

    def test_behind_what_is_done(self):
        self.assertEqual(last(READY, "do 0 0, ask 1, set 0, answer 1 7, gather, state"), [2, 4, 15, 3, 7])

    def test_behind_back_and_again(self):
        line = "begin 1 2, deed 0 0 1 0, allow 1, rule 1"
        self.assertEqual(run(line, "back, state, back, state, back, state, again, again, again, state")[5::2][:3],
                         [[1, 2, 3, 1, 1], [1, 2, 3, 1, 0], [1, 2, 3, 0, 0]])
        self.assertEqual(last(line, "back, back, back, again, again, again, state"), [1, 2, 1, 1, 0])

    def test_behind_another_begin(self):
        self.assertEqual(last(READY, "rule 7, begin 3 2, state"), [3, 2, 255, 0, 0])


class LookingChangesNothing(unittest.TestCase):
    LINE = "begin 3 3, rule 127, deed 4 0 1 0, deed 4 0 2 0, deed 0 0 4 0, allow 3, answer 3 6, do 0 0, do 1 1, back"

    def test_in_what_every_look_answers(self):
        first = seen(self.LINE, 3)
        for look in first:
            with self.subTest(look):
                self.assertEqual(seen(f"{self.LINE}, {look}, {look}", 3), first)

    def test_in_what_can_be_taken_back_and_done_again(self):
        for look in seen(self.LINE, 3):
            with self.subTest(look):
                self.assertEqual(run(self.LINE, look, "again, copies, again, back, back")[11:],
                                 [[0], [3, 0, 1, 2, 0], [-2], [7], [6]])


if __name__ == "__main__":
    unittest.main()
