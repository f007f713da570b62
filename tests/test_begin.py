"""Point 1: begin, and what holds ahead of it."""

import unittest

from lines import LARGEST, NAMES, SIZES, firsts, last, run, seen


def with_ones(name):
    return " ".join([name] + ["1"] * SIZES[name])


class NotBegun(unittest.TestCase):
    def test_every_other_call_is_refused(self):
        for name in NAMES[1:]:
            with self.subTest(name):
                self.assertEqual(run(with_ones(name)), [[-61]])

    def test_all_of_them_in_one_line(self):
        line = ",".join(with_ones(name) for name in NAMES[1:])
        self.assertEqual(run(line, "begin 1 2"), [[-61]] * 29 + [[0]])

    def test_numbers_as_large_as_can_be(self):
        for name in NAMES[1:]:
            with self.subTest(name):
                large = with_ones(name).replace("1", str(LARGEST))
                self.assertEqual(run(large), [[-61]])

    def test_a_refused_begin_does_not_begin(self):
        self.assertEqual(run("begin 0 2, copies, begin 5 2, ahead, begin 2 1, gather, begin 2 5, back"),
                         [[-22], [-61]] * 4)

    def test_what_was_refused_then_is_not_there_later(self):
        self.assertEqual(run("set 1, gather, begin 1 2, back, copies"), [[-61], [-61], [0], [-2], [2, 0, 0, 0]])


class Begin(unittest.TestCase):
    def test_which_numbers_are_taken(self):
        for facts in range(7):
            for copies in range(7):
                with self.subTest(facts=facts, copies=copies):
                    told = 0 if 1 <= facts <= 4 and 2 <= copies <= 4 else -22
                    self.assertEqual(run(f"begin {facts} {copies}"), [[told]])

    def test_large_numbers_are_refused(self):
        self.assertEqual(run(f"begin {LARGEST} 2, begin 2 {LARGEST}, begin {LARGEST} {LARGEST}"), [[-22]] * 3)

    def test_all_copies_and_the_common_state_have_no_fact(self):
        self.assertEqual(last("begin 1 2, copies"), [2, 0, 0, 0])
        self.assertEqual(last("begin 2 3, copies"), [3, 0, 0, 0, 0])
        self.assertEqual(last("begin 4 4, copies"), [4, 0, 0, 0, 0, 0])
        self.assertEqual(run("begin 4 4, ahead, differ")[1:], [[0], [0]])

    def test_all_states_are_let(self):
        for facts in range(1, 5):
            states = range(2 ** facts)
            line = ",".join(f"set {state}" for state in states)
            self.assertEqual(firsts(f"begin {facts} 2", line), [0, 0] + list(states)[:-1])
            self.assertEqual(last(f"begin {facts} 2, set {2 ** facts}"), [-22])

    def test_no_deeds_and_none_allowed(self):
        self.assertEqual(firsts("begin 2 2, do 0 0, ask 0, drop 0, allow 1, allow 0"), [0, -2, -2, -2, -22, 0])

    def test_nothing_is_told(self):
        line = ",".join(f"answer {state} 7" for state in range(16))
        self.assertEqual(firsts("begin 4 2", line), [0] * 17)

    def test_every_look_right_behind_it(self):
        self.assertEqual(seen("begin 1 2", 2), {
            "copies": [2, 0, 0, 0], "ahead": [0], "differ": [0], "can_do 0": [0], "can_do 1": [0], "can_ask": [0],
            "reach 0": [1, 0], "reach 1": [1, 0], "keeps 1": [1], "keeps 2": [1], "keeps 3": [1], "keeps 4": [1],
            "broken 1": [-33], "broken 2": [-33], "broken 3": [-33], "broken 4": [-33], "fewest": [-33],
            "clashes": [0], "most_free": [1, 0], "asked": [0, 0], "closed": [1], "told 0": [0], "told 1": [0],
            "sure 0": [0], "sure 1": [0], "may 0": [0], "may 1": [0], "may_come 0": [1, 0], "may_come 1": [1, 0],
            "state": [1, 2, 3, 0, 0],
        })

    def test_nothing_to_take_back_or_do_again(self):
        self.assertEqual(firsts("begin 2 2, back, again"), [0, -2, -2])


class SecondBegin(unittest.TestCase):
    FULL = "begin 2 3, rule 7, deed 0 0 1 0, allow 1, set 2, answer 2 5, set 0, do 1 0"

    def test_all_is_new(self):
        self.assertEqual(firsts(self.FULL, "begin 3 2, set 7, ask 0, allow 1, answer 2 1, set 0")[8:],
                         [0, 0, -2, -22, 0, 7])
        self.assertEqual(last(self.FULL, "begin 3 2, copies"), [2, 0, 0, 0])

    def test_all_is_new_in_every_look(self):
        self.assertEqual(seen(f"{self.FULL}, begin 3 2", 2), seen("begin 3 2", 2))
        self.assertEqual(seen(f"{self.FULL}, begin 2 3", 3), seen("begin 2 3", 3))

    def test_refused_every_look_answers_as_it_did(self):
        self.assertEqual(seen(f"{self.FULL}, begin 2 1, begin 0 3", 3), seen(self.FULL, 3))

    def test_it_is_taken_while_the_copies_differ(self):
        self.assertEqual(run(self.FULL, "differ, begin 2 3, differ")[8:], [[1, 1], [0], [0]])

    def test_nothing_can_be_taken_back_past_it(self):
        self.assertEqual(firsts(self.FULL, "begin 2 3, back")[8:], [0, -2])

    def test_nothing_can_be_done_again_past_it(self):
        self.assertEqual(firsts(self.FULL, "back, begin 2 3, again")[8:], [6, 0, -2])

    def test_refused_it_changes_nothing(self):
        self.assertEqual(run(self.FULL, "begin 5 2, begin 2 1, copies, back, again, answer 2 0, gather, allow 1")[8:],
                         [[-22], [-22], [3, 0, 0, 1, 0], [6], [0], [5], [1], [1]])

    def test_refused_it_leaves_what_stands_to_be_done_again(self):
        self.assertEqual(firsts(self.FULL, "back, back, begin 0 0, again, again, again")[8:], [6, 5, -22, 1, 0, -2])


if __name__ == "__main__":
    unittest.main()
