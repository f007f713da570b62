"""Many lines against a slow model of the document's words."""

import itertools
import random
import unittest

from lines import AT_A_COPY, LOOKS, NAMES, all_looks
from model import Line, named, some_deed, some_line, some_rule, told_by_package

LINES = 1500
REFUSALS = {
    "begin": (-22,), "rule": (-16, -22, -33), "deed": (-16, -22, -28), "drop": (-16, -2), "allow": (-16, -22, -33),
    "set": (-16, -22, -33), "answer": (-22,), "do": (-2, -35, -6, -33), "ask": (-2, -6, -33), "gather": (),
    "back": (-2,), "again": (-2,), "keeps": (-22,), "broken": (-22, -33), "fewest": (-33,),
} | dict.fromkeys(AT_A_COPY, (-2,))


def told_by_model(line):
    model = Line()
    return [model.answer(name, numbers) for name, numbers in line]


class AgainstTheModel(unittest.TestCase):
    def check(self, line):
        self.assertLessEqual(len(line), 60)
        told = told_by_model(line)
        self.assertEqual(told_by_package(line), told, line)
        return told

    def test_many_lines(self):
        chance = random.Random(1)
        met = {name: set() for name in NAMES}
        for turn in range(LINES):
            line = some_line(chance)
            for (name, numbers), answered in zip(line, self.check(line)):
                met[name].add(tuple(answered))
        self.check_met(met)

    def check_met(self, met):
        # Lines that never meet a refusal, or always the same answer, would show nothing.
        for name in NAMES:
            with self.subTest(name):
                refusals = {number for number, *others in met[name] if number < 0}
                self.assertEqual(refusals, {*REFUSALS.get(name, ()), *([-61] if name != "begin" else [])})
        many = {"differ": 10, "keeps": 2, "fewest": 2, "closed": 2, "told": 5, "sure": 5, "may": 5, "ahead": 16,
                "can_do": 10, "can_ask": 10}
        for name in LOOKS:
            with self.subTest(name):
                self.assertGreaterEqual(len([one for one in met[name] if one[0] >= 0]), many.get(name, 25))

    def test_every_rule_and_two_deeds_of_two_facts(self):
        deeds = ["0 0 1 0", "0 0 2 0", "1 1 2 0", "2 0 1 0", "1 1 0 1", "3 3 0 3", "3 1 2 1"]
        looks = "keeps 2, broken 2, broken 3, fewest, clashes, most_free, asked, closed"
        for state, rule in itertools.product(range(4), range(1, 16)):
            if rule >> state & 1:
                for first, second in itertools.product(deeds, repeat=2):
                    line = f"begin 2 2, set {state}, deed {first}, deed {second}, rule {rule}, {looks}, " \
                           "allow 1, allow 2, allow 3, reach 0, may_come 1, can_do 0, can_ask"
                    self.check([named(text) for text in line.split(",")])

    def test_every_rule_of_three_facts_whether_it_is_closed(self):
        closed = 0
        for rule in range(1, 256):
            lowest = (rule & -rule).bit_length() - 1
            told = self.check([named(text) for text in ("begin 3 2", f"set {lowest}", f"rule {rule}", "closed")])
            closed += told[-1] == [1]
        self.assertGreater(closed, 20)
        self.assertLess(closed, 200)

    def test_every_look_with_four_facts_four_copies_and_six_deeds(self):
        chance = random.Random(3)
        for turn in range(25):
            line = [("begin", [4, 4])] + [("deed", some_deed(chance, 4)) for number in range(6)]
            line += [("rule", [some_rule(chance, 4)]), ("allow", [chance.randrange(64)])]
            line += [("do", [chance.randrange(4), chance.randrange(6)]) for number in range(7)]
            self.check(line + [named(text) for text in all_looks(4)])

    def test_what_is_looked_at_again_at_every_step(self):
        chance = random.Random(4)
        for turn in range(60):
            line = [one for one in some_line(chance) if one[0] not in LOOKS][:20]
            look = chance.choice(LOOKS)
            texts = [text for text in all_looks(2) if text.split()[0] == look]
            self.check([one for step in line for one in (step, *[named(text) for text in texts[:2]])])


if __name__ == "__main__":
    unittest.main()
