"""What holds, a to d, over many drawn lines, seen through the package's own answers."""

import random
import unittest

from lines import LOOKS, all_looks
from model import WEIGHTS, Line, facts_of, named, some_line, together, told_by_package

CHANGES_ALONE = {name: weight for name, weight in WEIGHTS.items() if name not in LOOKS}


def looks_of(*texts):
    return [named(text) for text in texts]


def behind(line, looks):
    """What the looks answer behind a line, each line no longer than 60 calls."""
    room = 60 - len(line)
    found = []
    for at in range(0, len(looks), room):
        some = looks[at:at + room]
        found += told_by_package(line + some)[-len(some):]
    return found


def copies_behind(line):
    """How many copies there are behind a line; none if it's not begun."""
    return max(0, told_by_package(line + [("copies", [])])[-1][0])


class WhatHolds(unittest.TestCase):
    def setUp(self):
        chance = random.Random(2)
        self.lines = [some_line(chance, CHANGES_ALONE) for turn in range(150)]

    def cut(self, *lengths):
        """The beginnings of the lines of these lengths that have begun, each with how many copies there are."""
        for line in self.lines:
            for length in lengths:
                many = copies_behind(line[:length])
                if many:
                    yield line[:length], many


class TheRuleIsKept(WhatHolds):
    def check(self, copies, state, let):
        self.assertEqual(facts_of(state[2]), frozenset(sum(2 ** fact for fact in one) for one in let))
        common, states = facts_of(copies[1]), [facts_of(one) for one in copies[2:]]
        self.assertLessEqual({common, together(common, states), *states}, let)

    def test_at_every_copy_and_ahead_behind_every_call(self):
        # The model knows which states are let; where the copies stand is the package's own word.
        for line in self.lines:
            line = [one for step in line[:20] for one in (step, *looks_of("copies", "state"))]
            model = Line()
            told = told_by_package(line)
            for at, (name, numbers) in enumerate(line):
                model.answer(name, numbers)
                if name == "state" and told[at] != [-61]:
                    self.check(told[at - 1], told[at], model.now().let)

    def test_far_into_a_line(self):
        for line, many in self.cut(30, 40, 50, 58):
            copies, state = told_by_package(line + looks_of("copies", "state"))[-2:]
            common = copies[1]
            changed = 0
            for one in copies[2:]:
                self.assertTrue(state[2] >> one & 1, line)
                changed |= one ^ common
            self.assertTrue(state[2] >> (common ^ changed) & 1, line)
            self.assertTrue(state[2] >> common & 1, line)

    def test_everywhere_a_copy_may_come_and_all_that_may_come(self):
        for line, many in self.cut(20, 35, 50):
            for copy in range(many):
                state, reach, come = told_by_package(line + looks_of("state", f"reach {copy}", f"may_come {copy}"))[-3:]
                for one in reach[1:] + come[1:]:
                    self.assertTrue(state[2] >> one & 1, line)


class WhatIsSureComes(WhatHolds):
    def test_what_lies_ahead_may_come_as_each_copy_knows(self):
        apart = 0
        for line, many in self.cut(15, 25, 35, 45, 55):
            ahead, differ, *come = told_by_package(line + looks_of("ahead", "differ", *[f"may_come {copy}" for copy
                                                                                      in range(many)]))[len(line):]
            apart += differ[0] > 0
            for one in come:
                self.assertIn(ahead[0], one[1:])
        self.assertGreater(apart, 50)

    def test_what_is_sure_is_told_of_what_lies_ahead(self):
        sure = 0
        for line, many in self.cut(15, 25, 35, 45, 54):
            looks = looks_of(*[f"sure {copy}" for copy in range(many)], "gather", "told 0")
            told = [answered[0] for answered in told_by_package(line + looks)[len(line):]]
            for one in told[:many]:
                self.assertEqual(one & told[-1], one, line)
                sure += one > 0
        self.assertGreater(sure, 100)

    def test_what_is_told_of_what_lies_ahead_may_be(self):
        for line, many in self.cut(15, 35, 54):
            looks = looks_of(*[f"may {copy}" for copy in range(many)], "gather", "told 0")
            told = [answered[0] for answered in told_by_package(line + looks)[len(line):]]
            for one in told[:many]:
                self.assertEqual(one & told[-1], told[-1], line)

    def test_what_is_sure_may_be(self):
        for line, many in self.cut(20, 40, 58):
            for copy in range(many):
                sure, may = told_by_package(line + looks_of(f"sure {copy}", f"may {copy}"))[-2:]
                self.assertEqual(sure[0] & may[0], sure[0])

    def test_nothing_another_copy_does_makes_it_unsure(self):
        chance = random.Random(5)
        done = 0
        for line, many in self.cut(20, 30, 40):
            copy = chance.randrange(many)
            others = [other for other in range(many) if other != copy]
            looks = looks_of(f"sure {copy}", f"may_come {copy}")
            for turn in range(5):
                looks += [("do", [chance.choice(others), chance.randrange(4)])]
                looks += looks_of(f"sure {copy}", f"may_come {copy}")
            told = told_by_package(line + looks)[len(line):]
            done += any(answered[0] >= 0 for answered in told[2::3])
            for at in range(3, len(told), 3):
                self.assertEqual(told[at][0] & told[0][0], told[0][0])
                self.assertLessEqual(set(told[at + 1][1:]), set(told[1][1:]))
        self.assertGreater(done, 80)


class AskedAndDone(WhatHolds):
    def test_they_answer_the_same_while_together(self):
        compared = 0
        for line, many in self.cut(*range(8, 58, 7)):
            ahead = line + [("gather", [])]
            for number in range(4):
                done = told_by_package(ahead + [("do", [1, number])])[-1]
                if done not in ([-35], [-2]):
                    self.assertEqual(told_by_package(ahead + [("ask", [number])])[-1], done, ahead)
                    compared += 1
        self.assertGreater(compared, 300)

    def test_what_can_be_done_can_be_asked_while_together(self):
        for line, many in self.cut(12, 30, 50):
            done, asked = told_by_package(line + looks_of("gather", "can_do 0", "can_ask"))[-2:]
            self.assertLessEqual(set(done[1:]), set(asked[1:]))

    def test_do_and_ask_do_just_what_the_looks_tell(self):
        apart = 0
        for line, many in self.cut(12, 20, 28, 36, 44, 52):
            differ, deeds = told_by_package(line + looks_of("differ", "state"))[-2:]
            apart += differ[0] > 0
            for copy in range(many):
                can = [number for number in range(deeds[3])
                       if told_by_package(line + [("do", [copy, number])])[-1][0] >= 0]
                self.assertEqual(told_by_package(line + looks_of(f"can_do {copy}"))[-1], [len(can)] + can)
            can = [number for number in range(deeds[3]) if told_by_package(line + [("ask", [number])])[-1][0] >= 0]
            self.assertEqual(told_by_package(line + looks_of("can_ask"))[-1], [len(can)] + can)
        self.assertGreater(apart, 50)


class GatheredAndTakenBack(WhatHolds):
    def test_gathered_all_have_one_state(self):
        for line, many in self.cut(20, 40, 56):
            gathered, copies, differ = told_by_package(line + looks_of("gather", "copies", "differ"))[-3:]
            self.assertEqual((copies, differ), ([many] + gathered * (many + 1), [0]))

    def test_gathered_again_nothing_changes(self):
        for line, many in self.cut(20, 45):
            looks = looks_of(*all_looks(many))
            once = line + [("gather", [])]
            self.assertEqual(behind(once + [("gather", [])], looks), behind(once, looks))

    def test_taken_back_and_done_again_it_is_as_it_was_in_every_look(self):
        taken = 0
        for line, many in self.cut(20, 45):
            looks = looks_of(*all_looks(many))
            for times in (1, 4):
                steps = [("back", [])] * times
                bent = line + steps + [("again", [])] * times
                if told_by_package(line + steps)[-1][0] >= 0:
                    self.assertEqual(behind(bent, looks), behind(line, looks), line)
                    taken += 1
        self.assertGreater(taken, 200)

    def test_taken_back_it_is_as_it_was_ahead_of_the_change(self):
        chance = random.Random(8)
        taken = 0
        for line, many in self.cut(20, 30, 45):
            name, numbers = chance.choice(chance.choice(self.lines))
            answered = told_by_package(line + [(name, numbers)])[-1][0]
            if name not in ("begin", "back", "again") and answered >= 0:
                looks = looks_of(*all_looks(many))
                self.assertEqual(behind(line + [(name, numbers), ("back", [])], looks), behind(line, looks), line)
                taken += 1
        self.assertGreater(taken, 100)

    def test_what_is_done_behind_goes_on_as_it_would(self):
        for line in self.lines:
            for many in (1, 3):
                rest = line[52:52 + 8 - 2 * many]
                straight = told_by_package(line[:52] + rest)
                steps = [("back", [])] * many + [("again", [])] * many
                bent = told_by_package(line[:52] + steps + rest)
                if bent[52 + many - 1][0] >= 0:
                    self.assertEqual(bent[52 + 2 * many:], straight[52:], line)

    def test_what_is_refused_and_looking_changes_nothing(self):
        chance = random.Random(6)
        for turn in range(150):
            line = some_line(chance)
            told = told_by_package(line)
            kept = [at for at, (name, numbers) in enumerate(line) if told[at][0] >= 0 and name not in LOOKS]
            self.assertEqual(told_by_package([line[at] for at in kept]), [told[at] for at in kept], line)

    def test_what_is_refused_changes_no_look(self):
        chance = random.Random(7)
        refused = 0
        for line, many in self.cut(15, 30):
            name, numbers = chance.choice(chance.choice(self.lines))
            if told_by_package(line + [(name, numbers)])[-1][0] < 0:
                looks = looks_of(*all_looks(many))
                self.assertEqual(behind(line + [(name, numbers)], looks), behind(line, looks))
                refused += 1
        self.assertGreater(refused, 50)


if __name__ == "__main__":
    unittest.main()
