"""Point 4: copies, ahead and differ."""

import unittest

from lines import run

READY = "begin 2 4, deed 0 0 1 0, deed 0 0 2 0, deed 1 1 0 1, allow 7"


class Looks(unittest.TestCase):
    def looks(self, *lines):
        return run(READY, *lines, "copies, ahead, differ")[-3:]

    def test_together(self):
        self.assertEqual(self.looks(), [[4, 0, 0, 0, 0, 0], [0], [0]])
        self.assertEqual(self.looks("set 3"), [[4, 3, 3, 3, 3, 3], [3], [0]])

    def test_one_differs(self):
        for copy in range(4):
            with self.subTest(copy):
                states = [0] * 4
                states[copy] = 2
                self.assertEqual(self.looks(f"do {copy} 1"), [[4, 0] + states, [2], [1, copy]])

    def test_several_differ(self):
        self.assertEqual(self.looks("do 3 0, do 1 1"), [[4, 0, 0, 2, 0, 1], [3], [2, 1, 3]])
        self.assertEqual(self.looks("do 2 1, do 0 0"), [[4, 0, 1, 0, 2, 0], [3], [2, 0, 2]])

    def test_all_differ(self):
        self.assertEqual(self.looks("do 0 0, do 1 0, do 2 0, do 3 0"), [[4, 0, 1, 1, 1, 1], [1], [4, 0, 1, 2, 3]])

    def test_from_another_common_state(self):
        self.assertEqual(self.looks("set 1, do 0 2, do 1 1, do 2 1, do 2 2"),
                         [[4, 1, 0, 3, 2, 1], [2], [3, 0, 1, 2]])

    def test_back_at_the_common_state_a_copy_does_not_differ(self):
        self.assertEqual(self.looks("do 0 0, do 0 2, do 1 0"), [[4, 0, 0, 1, 0, 0], [1], [1, 1]])

    def test_ahead_of_facts_that_go_and_facts_that_come(self):
        self.assertEqual(self.looks("set 1, do 0 2, do 3 1"), [[4, 1, 0, 1, 1, 3], [2], [2, 0, 3]])

    def test_how_many_copies_there_are(self):
        for copies in range(2, 5):
            with self.subTest(copies):
                self.assertEqual(run(f"begin 3 {copies}, set 5, copies")[-1], [copies, 5] + [5] * copies)

    def test_looking_changes_nothing(self):
        line = f"{READY}, do 0 0, do 1 1, back"
        looked = run(line, "copies, ahead, differ, copies, ahead, differ, again, copies, back, back")[8:]
        self.assertEqual(looked, [[4, 0, 1, 0, 0, 0], [1], [1, 0]] * 2 + [[0], [4, 0, 1, 2, 0, 0], [5], [4]])


if __name__ == "__main__":
    unittest.main()
