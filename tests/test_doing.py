"""Point 3: do, ask and gather."""

import unittest

from lines import LARGEST, firsts, last, run

# Two facts, three copies; 0 makes fact 0 so, 1 makes fact 1 so, 2 needs fact 0 and takes it away.
READY = "begin 2 3, deed 0 0 1 0, deed 0 0 2 0, deed 1 1 0 1, allow 7"
APART = f"{READY}, do 0 0, do 1 1"


class Do(unittest.TestCase):
    def test_the_state_of_that_copy(self):
        self.assertEqual(run(READY, "do 1 0, do 1 1, do 1 2, copies")[5:], [[1], [3], [2], [3, 0, 0, 2, 0]])

    def test_at_each_copy_by_itself(self):
        self.assertEqual(run(READY, "do 0 0, do 2 1, copies, differ")[5:], [[1], [2], [3, 0, 1, 0, 2], [2, 0, 2]])

    def test_there_is_no_such_copy(self):
        self.assertEqual(firsts(READY, f"do 3 0, do 4 0, do {LARGEST} 0, do 2 0")[5:], [-2, -2, -2, 1])
        for copies in range(2, 5):
            with self.subTest(copies):
                self.assertEqual(firsts(f"begin 1 {copies}, deed 0 0 1 0, allow 1, do {copies} 0, do {copies - 1} 0"),
                                 [0, 0, 0, -2, 1])

    def test_there_is_no_such_deed(self):
        self.assertEqual(firsts(READY, f"do 0 3, do 0 6, do 0 {LARGEST}, do {LARGEST} {LARGEST}")[5:], [-2] * 4)

    def test_a_deed_that_is_not_allowed(self):
        self.assertEqual(firsts(READY, "allow 2, do 0 0, do 0 1, do 0 2")[6:], [-35, 2, -35])

    def test_what_it_needs_is_not_so(self):
        self.assertEqual(firsts(READY, "do 0 2, do 1 0, do 0 2, do 1 2, do 1 2")[5:], [-6, 1, -6, 0, -6])

    def test_what_it_needs_not_to_be_so(self):
        self.assertEqual(firsts("begin 2 2, deed 3 1 2 0, allow 1, do 0 0, set 3, do 0 0, set 1, do 0 0, do 1 0"),
                         [0, 0, 0, -6, 0, -6, 3, 3, 3])

    def test_what_comes_is_not_let(self):
        line = "begin 2 2, deed 0 0 1 0, deed 1 1 2 0, rule 7, allow 3"
        self.assertEqual(firsts(line, "do 0 0, do 0 1, do 0 0")[5:], [1, -33, 1])

    def test_none_such_is_told_ahead_of_not_allowed(self):
        self.assertEqual(firsts(READY, "allow 0, do 3 0, do 0 3, do 0 0")[6:], [-2, -2, -35])

    def test_not_allowed_is_told_ahead_of_what_it_needs(self):
        self.assertEqual(firsts(READY, "allow 3, do 0 2, allow 4, do 0 2")[6:], [-35, 3, -6])

    def test_not_allowed_is_told_ahead_of_not_let(self):
        line = "begin 2 2, deed 0 0 1 0, rule 1"
        self.assertEqual(firsts(line, "do 0 0, allow 1, do 0 0")[3:], [-35, 0, -33])

    def test_what_it_needs_is_told_ahead_of_not_let(self):
        line = "begin 2 2, deed 2 2 1 0, rule 1, allow 1"
        self.assertEqual(firsts(line, "do 0 0, rule 5, set 2, allow 1, do 0 0")[4:], [-6, 0, 0, 0, -33])

    def test_refused_it_changes_nothing(self):
        refused = f"do 3 0, do 0 3, do 2 2, do {LARGEST} 0"
        self.assertEqual(run(APART, refused, "copies, ahead, differ, allow 0, back, back")[7:],
                         [[-2], [-2], [-6], [-2], [3, 0, 1, 2, 0], [3], [2, 0, 1], [-16], [5], [4]])
        self.assertEqual(run("begin 1 2, deed 0 0 1 0, rule 1, do 0 0, allow 1, do 0 0, copies, back, back")[3:],
                         [[-35], [0], [-33], [2, 0, 0, 0], [2], [1]])

    def test_the_others_and_the_common_state_stay(self):
        self.assertEqual(run(READY, "set 2, do 1 0, copies")[6:], [[3], [3, 2, 2, 3, 2]])

    def test_what_comes_at_the_copy_counts_not_what_lies_ahead(self):
        # Copy 1 lacks fact 0 though it lies ahead.
        self.assertEqual(firsts(READY, "do 0 0, do 1 2, ahead")[5:], [1, -6, 1])


class Ask(unittest.TestCase):
    def test_that_is_the_common_state_and_all_copies(self):
        self.assertEqual(run("begin 2 3, deed 0 0 1 0, ask 0, copies")[2:], [[1], [3, 1, 1, 1, 1]])

    def test_a_deed_need_not_be_allowed(self):
        self.assertEqual(firsts("begin 2 2, deed 0 0 1 0, do 0 0, ask 0"), [0, 0, -35, 1])

    def test_there_is_no_such_deed(self):
        self.assertEqual(firsts(READY, f"ask 3, ask 6, ask {LARGEST}")[5:], [-2] * 3)
        self.assertEqual(last("begin 1 2, ask 0"), [-2])

    def test_while_copies_differ_all_is_put_together_first(self):
        # 1 and 2 are 3 together; of that deed 2 takes fact 0 away.
        self.assertEqual(run(APART, "ask 2, copies, differ")[7:], [[2], [3, 2, 2, 2, 2], [0]])

    def test_what_it_needs_is_asked_of_what_lies_ahead(self):
        needs_both = "begin 2 2, deed 0 0 1 0, deed 0 0 2 0, deed 3 3 0 3, allow 3"
        self.assertEqual(firsts(needs_both, "ask 2, do 0 0, ask 2, do 1 1, ask 2, ahead")[5:], [-6, 1, -6, 2, 0, 0])

    def test_what_it_needs_at_a_copy_alone_does_not_count(self):
        # The common state is 1; copy 0 still has fact 0, but ahead it's gone.
        line = "begin 1 2, deed 1 1 0 1, set 1, allow 1, do 1 0"
        self.assertEqual(run(line, "copies, ask 0")[5:], [[2, 1, 1, 0], [-6]])

    def test_what_comes_of_it_there_is_not_let(self):
        # Of 1 at the one copy alone, or 0 at the other, what comes would be let.
        line = "begin 3 2, deed 4 0 1 0, deed 4 0 2 0, deed 0 0 4 0, rule 127, allow 3, do 0 0, do 1 1"
        self.assertEqual(firsts(line, "ask 2, ahead")[8:], [-33, 3])

    def test_what_comes_has_to_be_let(self):
        self.assertEqual(firsts("begin 2 2, deed 0 0 3 0, rule 7, ask 0, rule 15, ask 0"), [0, 0, 0, -33, 0, 3])

    def test_what_it_needs_is_told_ahead_of_not_let(self):
        self.assertEqual(firsts("begin 2 2, deed 1 1 2 0, rule 3, ask 0, set 1, ask 0"), [0, 0, 0, -6, 0, -33])

    def test_refused_it_changes_nothing(self):
        line = "begin 3 2, deed 4 0 1 0, deed 4 0 2 0, deed 0 0 4 0, deed 7 7 0 1, rule 127, allow 3, do 0 0, do 1 1"
        self.assertEqual(run(line, "ask 2, ask 3, ask 4, copies, ahead, differ, back, again, copies")[9:],
                         [[-33], [-6], [-2], [2, 0, 1, 2], [3], [2, 0, 1], [7], [0], [2, 0, 1, 2]])

    def test_what_is_allowed_stays(self):
        self.assertEqual(firsts(APART, "ask 0, allow 7")[7:], [3, 7])


class Gather(unittest.TestCase):
    def test_nothing_was_done(self):
        self.assertEqual(run("begin 2 3, gather, copies, set 2, gather, copies")[1:],
                         [[0], [3, 0, 0, 0, 0], [0], [2], [3, 2, 2, 2, 2]])

    def test_copies_that_did_different_things(self):
        self.assertEqual(run(APART, "gather, copies, ahead, differ")[7:], [[3], [3, 3, 3, 3, 3], [3], [0]])

    def test_two_copies_that_did_the_same(self):
        self.assertEqual(run(READY, "do 0 0, do 2 0, ahead, gather, copies")[5:],
                         [[1], [1], [1], [1], [3, 1, 1, 1, 1]])
        self.assertEqual(run(READY, "set 1, do 0 2, do 1 2, ahead, gather, copies")[6:],
                         [[0], [0], [0], [0], [3, 0, 0, 0, 0]])

    def test_what_one_copy_changed_is_changed_though_others_have_it_still(self):
        self.assertEqual(run(READY, "set 3, do 1 2, gather, copies")[6:], [[2], [2], [3, 2, 2, 2, 2]])

    def test_what_was_changed_and_changed_back_is_not_changed(self):
        self.assertEqual(firsts(READY, "do 0 0, do 0 2, do 1 1, gather")[5:], [1, 0, 2, 2])

    def test_gathered_again_nothing_changes(self):
        self.assertEqual(run(APART, "gather, copies, gather, copies, ahead, differ")[7:],
                         [[3], [3, 3, 3, 3, 3], [3], [3, 3, 3, 3, 3], [3], [0]])

    def test_they_go_on_from_there(self):
        self.assertEqual(run(APART, "gather, do 2 2, copies, gather, copies")[8:],
                         [[2], [3, 3, 3, 3, 2], [2], [3, 2, 2, 2, 2]])

    def test_all_four_copies_are_gathered(self):
        line = "begin 4 4, deed 0 0 1 0, deed 0 0 2 0, deed 0 0 4 0, deed 0 0 8 0, allow 15"
        self.assertEqual(run(line, "do 0 0, do 1 1, do 2 2, do 3 3, ahead, gather, copies")[10:],
                         [[15], [15], [4, 15, 15, 15, 15, 15]])

    def test_what_is_allowed_stays(self):
        self.assertEqual(firsts(APART, "gather, allow 7")[7:], [3, 7])


if __name__ == "__main__":
    unittest.main()
