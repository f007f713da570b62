"""Point 1: back and again."""

import unittest

from lines import LOOKS, SIZES, firsts, last, run, seen

# Two facts, three copies, deed 0 makes fact 0 so, deed 1 makes fact 1 so; both are allowed.
READY = "begin 2 3, deed 0 0 1 0, deed 0 0 2 0, allow 3"
# A change of each kind, taken there.
CHANGES = {
    "rule": "rule 7",
    "deed": "deed 3 3 0 1",
    "drop": "drop 0",
    "allow": "allow 1",
    "set": "set 2",
    "answer": "answer 0 6",
    "do": "do 1 0",
    "ask": "ask 1",
    "gather": "gather",
}


def looks_behind(line):
    """All that can be seen behind a line: the looks, and what the tries answer on the way."""
    tries = ("set 3", "set 0", "allow 3", "allow 0", "allow 7", "drop 2", "do 0 0", "do 0 1", "ask 0", "ask 1",
             "ask 2", "answer 0 0", "gather")
    return [seen(line, 3)] + [last(line, one) for one in tries]


class BackAndAgain(unittest.TestCase):
    def test_over_every_kind_of_change(self):
        for name, change in CHANGES.items():
            with self.subTest(name):
                before = looks_behind(READY)
                behind = looks_behind(f"{READY}, {change}")
                self.assertEqual(firsts(READY, change, "back, again")[-2:], [3, 0])
                self.assertEqual(looks_behind(f"{READY}, {change}, back"), before)
                self.assertEqual(looks_behind(f"{READY}, {change}, back, again"), behind)
                self.assertEqual(looks_behind(f"{READY}, {change}, back, again, back"), before)

    def test_the_tries_tell_the_changes_apart(self):
        # Else the test above would pass with nothing taken back; gather changes nothing while all are together.
        before = looks_behind(READY)
        for name, change in CHANGES.items():
            with self.subTest(name):
                self.assertEqual(looks_behind(f"{READY}, {change}") == before, name == "gather")

    def test_what_was_told_comes_back(self):
        self.assertEqual(firsts("begin 1 2, answer 1 3, answer 1 5, back, answer 1 7, back, back, answer 1 1"),
                         [0, 0, 3, 1, 3, 1, 0, 0])

    def test_a_dropped_deed_comes_back_where_it_was(self):
        line = "begin 2 2, deed 0 0 1 0, deed 0 0 2 0, drop 0"
        self.assertEqual(last(line, "ask 0"), [2])
        self.assertEqual(firsts(line, "back, ask 0, back, ask 1")[4:], [2, 1, 2, 2])

    def test_what_was_allowed_comes_back(self):
        for change in ("rule 15", "deed 0 0 0 0", "drop 1", "allow 0"):
            with self.subTest(change):
                self.assertEqual(firsts(READY, change, "do 0 0, back, do 0 0")[5:], [-35, 3, 1])

    def test_a_gathering_comes_back(self):
        line = f"{READY}, do 0 0, do 1 1, gather"
        self.assertEqual(run(line, "copies, back, copies, ahead, again, copies")[7:],
                         [[3, 3, 3, 3, 3], [5], [3, 0, 1, 2, 0], [3], [0], [3, 3, 3, 3, 3]])

    def test_a_gathering_that_changes_nothing_is_a_change(self):
        self.assertEqual(firsts("begin 1 2, gather, gather, back, back, back, again, again, again"),
                         [0, 0, 0, 1, 0, -2, 1, 0, -2])

    def test_each_that_changes_nothing_is_a_change(self):
        for change in ("rule 3", "allow 0", "set 0", "answer 0 0", "gather"):
            with self.subTest(change):
                self.assertEqual(firsts("begin 1 2", change, "back, back"), [0, 0, 0, -2])
        self.assertEqual(firsts("begin 1 2, deed 0 0 0 0, allow 1, do 0 0, ask 0, back, back"), [0, 0, 0, 0, 0, 3, 2])

    def test_looks_are_no_changes(self):
        self.assertEqual(firsts("begin 1 2, set 1, copies, ahead, differ, back, copies, ahead, differ, back, again"),
                         [0, 0, 2, 1, 0, 0, 2, 0, 0, -2, 0])

    def test_refusals_are_no_changes(self):
        refused = "rule 4, rule 1, deed 2 0 0 0, drop 0, allow 1, set 2, answer 2 0, do 0 0, ask 0"
        self.assertEqual(firsts("begin 1 2, set 1, set 0, back, set 1, back", refused, "again, back, back, back")[6:],
                         [-22, -33, -22, -2, -22, -22, -22, -2, -2, 0, 1, 0, -2])

    def test_refused_back_and_again_change_nothing(self):
        self.assertEqual(firsts("begin 1 2, back, again, set 1, again, back, back, again, ahead"),
                         [0, -2, -2, 0, -2, 0, -2, 0, 1])

    def test_how_many_can_still_be(self):
        self.assertEqual(firsts("begin 2 2, set 1, set 2, set 3, back, back, again, back, back, back"),
                         [0, 0, 1, 2, 2, 1, 1, 1, 0, -2])
        self.assertEqual(firsts("begin 2 2, set 1, set 2, set 3, back, back, back, again, again, again, again"),
                         [0, 0, 1, 2, 2, 1, 0, 2, 1, 0, -2])

    def test_each_step_leads_one_change_on(self):
        line = "begin 2 2, set 1, set 2, set 3"
        self.assertEqual(firsts(line, "back, ahead, back, ahead, back, ahead, again, ahead, again, ahead")[4:],
                         [2, 2, 1, 1, 0, 0, 2, 1, 1, 2])


class ChangeBehindBack(unittest.TestCase):
    def test_nothing_stands_to_be_done_again(self):
        self.assertEqual(firsts("begin 2 2, set 1, set 2, back, set 3, again, ahead"), [0, 0, 1, 1, 1, -2, 3])

    def test_what_was_taken_back_is_not_behind_it(self):
        self.assertEqual(firsts("begin 2 2, set 1, set 2, back, set 3, back, ahead, back, ahead, back"),
                         [0, 0, 1, 1, 1, 1, 1, 0, 0, -2])

    def test_every_kind_of_change_ends_it(self):
        for name, change in CHANGES.items():
            with self.subTest(name):
                self.assertEqual(firsts(READY, "answer 3 3, back", change, "again")[4:6], [0, 3])
                self.assertEqual(last(READY, "answer 3 3, back", change, "again"), [-2])

    def test_a_refusal_or_a_look_does_not_end_it(self):
        looks = [" ".join([name] + ["1"] * SIZES[name]) for name in LOOKS]
        for call in ("set 4", "do 3 0", "begin 0 0", "may_come 2", "keeps 0", "broken 5", *looks):
            with self.subTest(call):
                self.assertEqual(last("begin 2 2, set 1, set 2, back, back", call, "again"), [1])


class ElevenChanges(unittest.TestCase):
    def sets(self, many):
        return ["begin 4 2"] + [f"set {state}" for state in range(1, many + 1)]

    def test_ten_can_all_be_taken_back(self):
        self.assertEqual(firsts(*self.sets(10), ",".join(["back"] * 11), "ahead")[11:],
                         [9, 8, 7, 6, 5, 4, 3, 2, 1, 0, -2, 0])

    def test_of_eleven_the_first_stays(self):
        self.assertEqual(firsts(*self.sets(11), ",".join(["back"] * 11), "ahead")[12:],
                         [9, 8, 7, 6, 5, 4, 3, 2, 1, 0, -2, 1])

    def test_of_fifteen_the_first_five_stay(self):
        self.assertEqual(firsts(*self.sets(15), ",".join(["back"] * 11), "ahead")[16:],
                         [9, 8, 7, 6, 5, 4, 3, 2, 1, 0, -2, 5])

    def test_all_ten_are_done_again(self):
        line = self.sets(11) + ["back"] * 10
        self.assertEqual(firsts(*line, ",".join(["again"] * 11), "ahead")[22:],
                         [9, 8, 7, 6, 5, 4, 3, 2, 1, 0, -2, 11])
        self.assertEqual(firsts(*line, *["again"] * 10, ",".join(["back"] * 11), "ahead")[32:],
                         [9, 8, 7, 6, 5, 4, 3, 2, 1, 0, -2, 1])

    def test_a_change_behind_back_counts_from_there(self):
        self.assertEqual(firsts(*self.sets(11), "back, back, set 15, back, set 14, set 13, back")[12:],
                         [9, 8, 9, 8, 9, 14, 9])


class TakenBackToWhereTheyDiffered(unittest.TestCase):
    LINE = f"{READY}, do 0 0, do 2 1"

    def test_the_copies_differ_as_they_did(self):
        for change in ("gather", "ask 1", "do 1 0"):
            with self.subTest(change):
                self.assertEqual(run(self.LINE, change, "back, copies, ahead, differ")[7:],
                                 [[5], [3, 0, 1, 0, 2], [3], [2, 0, 2]])

    def test_over_several_changes(self):
        self.assertEqual(run(self.LINE, "gather, set 0, rule 15, back, back, back, copies, again, copies")[9:],
                         [[7], [6], [5], [3, 0, 1, 0, 2], [2], [3, 3, 3, 3, 3]])

    def test_what_needs_them_together_is_refused_there(self):
        self.assertEqual(firsts(self.LINE, "gather, back, rule 15, deed 0 0 0 0, drop 0, allow 0, set 0")[7:],
                         [5] + [-16] * 5)

    def test_what_was_allowed_is_allowed_there(self):
        self.assertEqual(firsts(self.LINE, "gather, drop 0, back, back, do 1 0, do 1 1, ahead")[8:], [6, 5, 1, 3, 3])

    def test_every_look_answers_as_it_did(self):
        line = f"{self.LINE}, answer 0 1, answer 2 3, answer 3 7"
        there = seen(line, 3)
        self.assertEqual([there[look] for look in ("sure 0", "sure 1", "sure 2", "may_come 0", "reach 2", "can_do 1")],
                         [[0], [0], [3], [2, 1, 3], [2, 2, 3], [2, 0, 1]])
        for change in ("gather", "ask 1", "do 1 0", "answer 3 0"):
            with self.subTest(change):
                self.assertNotEqual(seen(f"{line}, {change}", 3), there)
                self.assertEqual(seen(f"{line}, {change}, back", 3), there)
                self.assertEqual(seen(f"{line}, {change}, back, again, back", 3), there)

    def test_again_leads_to_where_they_differed(self):
        self.assertEqual(run(self.LINE, "back, back, differ, again, again, copies")[6:],
                         [[4], [3], [0], [1], [0], [3, 0, 1, 0, 2]])


if __name__ == "__main__":
    unittest.main()
