"""Point 5: keeps, broken, fewest and closed."""

import itertools
import random
import unittest

from lines import LARGEST, firsts, last, run, seen
from model import named, some_deed, some_rule, told_by_package

# Both facts at once are not let, and each may come: two copies break it.
BY_TWO = "begin 2 2, deed 0 0 1 0, deed 0 0 2 0, rule 7"
# A copy makes one fact so, and no other one behind it; all three, or four, at once are not let.
BY_THREE = "begin 3 2, deed 7 0 1 0, deed 7 0 2 0, deed 7 0 4 0, rule 127"
BY_FOUR = "begin 4 2, deed 15 0 1 0, deed 15 0 2 0, deed 15 0 4 0, deed 15 0 8 0, rule 32767"
ALL_LET = "begin 4 3, deed 0 0 1 0, deed 0 0 2 0, deed 0 0 4 0, deed 0 0 0 15"


def keeps(line):
    return firsts(line, "keeps 1, keeps 2, keeps 3, keeps 4, fewest")[-5:]


class Keeps(unittest.TestCase):
    def test_no_deeds(self):
        self.assertEqual(keeps("begin 1 2"), [1, 1, 1, 1, -33])
        self.assertEqual(keeps("begin 4 4, rule 1"), [1, 1, 1, 1, -33])

    def test_all_is_let(self):
        self.assertEqual(keeps(ALL_LET), [1, 1, 1, 1, -33])

    def test_two_break_it(self):
        self.assertEqual(keeps(BY_TWO), [1, 0, 0, 0, 2])

    def test_two_keep_it_and_three_break_it(self):
        self.assertEqual(keeps(BY_THREE), [1, 1, 0, 0, 3])

    def test_three_keep_it_and_four_break_it(self):
        self.assertEqual(keeps(BY_FOUR), [1, 1, 1, 0, 4])

    def test_one_copy_always_keeps_it(self):
        # By itself a copy never comes to what isn't let.
        self.assertEqual(keeps("begin 2 2, deed 0 0 1 0, deed 0 0 2 0, rule 1"), [1, 1, 1, 1, -33])
        self.assertEqual(last("begin 2 2, deed 0 0 3 0, deed 0 0 0 3, deed 0 0 1 2, rule 13, keeps 1"), [1])

    def test_which_numbers_are_taken(self):
        for line in (BY_TWO, ALL_LET, "begin 1 2"):
            self.assertEqual(run(line, f"keeps 0, keeps 5, keeps 6, keeps {LARGEST}")[-4:], [[-22]] * 4)
            self.assertEqual(run(line, f"broken 0, broken 5, broken 6, broken {LARGEST}")[-4:], [[-22]] * 4)

    def test_however_many_copies_there_are(self):
        for copies in range(2, 5):
            self.assertEqual(keeps(BY_FOUR.replace("begin 4 2", f"begin 4 {copies}")), [1, 1, 1, 0, 4])

    def test_with_all_deeds_whatever_is_allowed(self):
        for chosen in range(3):
            self.assertEqual(keeps(f"{BY_TWO}, allow {chosen}"), [1, 0, 0, 0, 2])

    def test_while_copies_differ(self):
        self.assertEqual(keeps(f"{BY_THREE}, allow 3, do 0 0, do 1 1"), [1, 1, 0, 0, 3])

    def test_from_any_state_that_is_let(self):
        # Only from 4 on can the deeds be done.
        line = "begin 3 2, deed 4 4 1 0, deed 4 4 2 0"
        self.assertEqual(keeps(f"{line}, rule 127"), [1, 0, 0, 0, 2])
        self.assertEqual(keeps(f"{line}, rule 111"), [1, 1, 1, 1, -33])

    def test_by_deeds_one_behind_another(self):
        # From 0 to 1, to 3, and by another deed to 4; 1 with 4 is let, 3 with 4 isn't.
        line = "begin 3 2, rule 127, deed 7 0 1 0, deed 7 1 2 0"
        self.assertEqual(keeps(line), [1, 1, 1, 1, -33])
        self.assertEqual(keeps(f"{line}, deed 7 0 4 0"), [1, 0, 0, 0, 2])

    def test_behind_drop(self):
        self.assertEqual(keeps(f"{BY_TWO}, drop 0"), [1, 1, 1, 1, -33])
        self.assertEqual(keeps(f"{BY_TWO}, drop 0, back"), [1, 0, 0, 0, 2])


class Broken(unittest.TestCase):
    def test_it_is_kept(self):
        self.assertEqual(run("begin 4 4, broken 1, broken 2, broken 3, broken 4")[1:], [[-33]] * 4)
        self.assertEqual(run(ALL_LET, "broken 1, broken 2, broken 3, broken 4")[-4:], [[-33]] * 4)
        self.assertEqual(last(BY_TWO, "broken 1"), [-33])
        self.assertEqual(last(BY_THREE, "broken 2"), [-33])
        self.assertEqual(last(BY_FOUR, "broken 3"), [-33])

    def test_by_each_number_of_copies(self):
        self.assertEqual(run(BY_TWO, "broken 2, broken 3, broken 4")[-3:],
                         [[0, 1, 2, 3], [0, 0, 1, 2, 3], [0, 0, 0, 1, 2, 3]])
        self.assertEqual(run(BY_THREE, "broken 3, broken 4")[-2:], [[0, 1, 2, 4, 7], [0, 0, 1, 2, 4, 7]])
        self.assertEqual(last(BY_FOUR, "broken 4"), [0, 1, 2, 4, 8, 15])

    def test_the_first_state_that_is_let(self):
        line = "begin 3 2, deed 4 4 1 0, deed 4 4 2 0"
        self.assertEqual(run(line, "rule 127, broken 2, broken 3")[-2:], [[4, 5, 6, 7], [4, 4, 5, 6, 7]])

    def test_of_several_states_the_lesser(self):
        # From 0 and from 4 alike, the last fact stays as it is.
        line = "begin 3 2, deed 0 0 1 0, deed 0 0 2 0"
        self.assertEqual(last(line, f"rule {255 - 8 - 128}, broken 2"), [0, 1, 2, 3])
        self.assertEqual(last(line, f"rule {255 - 128}, broken 2"), [4, 5, 6, 7])
        self.assertEqual(last(line, f"set 4, rule {255 - 1 - 8 - 128}, broken 2"), [4, 5, 6, 7])

    def test_states_below_the_common_one(self):
        # From 3 one takes away the one fact and one the other; with neither isn't let. The row begins with the least.
        line = "begin 2 2, set 3, deed 0 0 0 1, deed 0 0 0 2, rule 14"
        self.assertEqual(run(line, "broken 2, broken 3, broken 4")[-3:],
                         [[3, 1, 2, 0], [3, 1, 1, 2, 0], [3, 1, 1, 1, 2, 0]])

    def test_the_first_row(self):
        # From 0 a copy comes to 1, 2 or 6; the row 1, 2 is ahead of 1, 6.
        line = "begin 3 2, deed 7 0 6 0, deed 7 0 2 0, deed 7 0 1 0"
        self.assertEqual(last(line, f"rule {255 - 8 - 128}, broken 2"), [0, 1, 2, 3])
        self.assertEqual(last(line, f"rule {255 - 128}, broken 2"), [0, 1, 6, 7])
        self.assertEqual(last(line, f"rule {255 - 8 - 128}, drop 1, broken 2"), [0, 1, 6, 7])
        self.assertEqual(last(line, f"rule {255 - 8}, drop 1, broken 2"), [-33])

    def test_the_first_row_of_three(self):
        # 1 twice and 6 is ahead of 1, 2, 6, and 0, 1, 6 is ahead of both.
        line = "begin 3 2, deed 7 0 6 0, deed 7 0 2 0, deed 7 0 1 0, rule 127"
        self.assertEqual(run(line, "broken 3, broken 4")[-2:], [[0, 0, 1, 6, 7], [0, 0, 0, 1, 6, 7]])

    def test_the_first_row_among_different_outcomes(self):
        # With 1 both 2 and 4 break it: the row with the lesser state is told, though 3 and 5 both aren't let.
        line = "begin 3 2, deed 7 0 4 0, deed 7 0 2 0, deed 7 0 1 0"
        self.assertEqual(last(line, f"rule {255 - 8 - 32}, broken 2"), [0, 1, 2, 3])
        self.assertEqual(last(line, f"rule {255 - 32 - 64}, broken 2"), [0, 1, 4, 5])
        self.assertEqual(last(line, f"rule {255 - 64}, broken 2"), [0, 2, 4, 6])

    def test_over_deeds_one_behind_another(self):
        line = "begin 3 2, rule 127, deed 7 0 1 0, deed 7 1 2 0, deed 7 0 4 0"
        self.assertEqual(last(line, "broken 2"), [0, 3, 4, 7])

    def test_with_all_deeds_whatever_is_allowed(self):
        self.assertEqual(last(BY_TWO, "allow 1, do 0 0, broken 2"), [0, 1, 2, 3])

    def test_however_the_copies_stand(self):
        self.assertEqual(last(BY_TWO, "set 2, broken 2"), [0, 1, 2, 3])


class TheyAgree(unittest.TestCase):
    def drawn(self):
        chance = random.Random(9)
        for turn in range(300):
            facts = chance.randrange(1, 5)
            line = [("begin", [facts, 2])] + [("deed", some_deed(chance, facts)) for number in range(turn % 7)]
            yield line + [("rule", [some_rule(chance, facts)])]
        for facts in (3, 4):
            for parts in itertools.product(range(1, 2 ** facts), repeat=3):
                # Deeds that can only be done at 0, one of them, at each copy.
                deeds = [("deed", [2 ** facts - 1, 0, part, 0]) for part in parts]
                if chance.random() < 0.1:
                    yield [("begin", [facts, 2])] + deeds + [("rule", [(2 ** 2 ** facts - 1) >> 1])]

    def test_keeps_broken_and_fewest(self):
        looks = "keeps 1, keeps 2, keeps 3, keeps 4, broken 1, broken 2, broken 3, broken 4, fewest".split(",")
        met = {}
        for line in self.drawn():
            told = told_by_package(line + [named(look) for look in looks])[-9:]
            kept = [answered == [1] for answered in told[:4]]
            self.assertEqual([answered == [-33] for answered in told[4:8]], kept)
            self.assertEqual(told[8], [-33 if all(kept) else kept.index(False) + 1])
            # More copies can do all that fewer can.
            self.assertEqual(kept, sorted(kept, reverse=True))
            met[told[8][0]] = met.get(told[8][0], 0) + 1
        self.assertGreater(min(met.get(number, 0) for number in (-33, 2, 3)), 2)

    def test_what_broken_tells_is_broken(self):
        found = 0
        for line in self.drawn():
            rule = told_by_package(line + [("state", [])])[-1][2]
            for many in range(2, 5):
                told = told_by_package(line + [("broken", [many])])[-1]
                if told == [-33]:
                    continue
                common, row, state = told[0], told[1:-1], told[-1]
                self.assertEqual((len(row), row), (many, sorted(row)))
                self.assertTrue(all(rule >> one & 1 for one in [common] + row))
                self.assertFalse(rule >> state & 1)
                changed = 0
                for one in row:
                    changed |= one ^ common
                self.assertEqual(state, common ^ changed)
                found += 1
        self.assertGreater(found, 100)

    def test_broken_leads_where_ask_leads(self):
        # Each state of the row is reached from the first one by deeds that are asked for, one behind another.
        for line in itertools.islice(self.drawn(), 60):
            told = told_by_package(line + [("broken", [2])])[-1]
            if told != [-33]:
                for state in told[1:-1]:
                    self.assertIn(state, self.asked_for(line + [("set", [told[0]])]))

    def asked_for(self, line):
        found = {}
        rows = [[]]
        while rows:
            row = rows.pop()
            state, can = told_by_package(line + row + [("ahead", []), ("can_ask", [])])[-2:]
            if state[0] not in found:
                found[state[0]] = True
                rows += [row + [("ask", [number])] for number in can[1:]]
        return found


class Closed(unittest.TestCase):
    def test_no_state_left_out(self):
        for facts in range(1, 5):
            self.assertEqual(last(f"begin {facts} 2, closed"), [1])

    def test_one_state_alone(self):
        for facts in range(1, 5):
            for state in range(2 ** facts):
                self.assertEqual(last(f"begin {facts} 2, set {state}, rule {1 << state}, closed"), [1])

    def test_two_states(self):
        # Of two, from one of them, only one of these two comes.
        for first, second in itertools.combinations(range(8), 2):
            self.assertEqual(last(f"begin 3 2, set {first}, rule {1 << first | 1 << second}, closed"), [1])

    def test_three_of_four_states(self):
        # Whichever is left out is put together of two others, from the one across.
        for left_out in range(4):
            self.assertEqual(last(f"begin 2 2, set {3 - left_out}, rule {15 - (1 << left_out)}, closed"), [0])

    def test_states_that_rise_one_by_one(self):
        # 0, 1, 3: from 1, of 0 and 3 comes 2.
        self.assertEqual(last("begin 2 2, rule 11, closed"), [0])
        self.assertEqual(last("begin 2 2, rule 9, closed"), [1])

    def test_half_of_the_states(self):
        # A fact that is always so, or two that are always alike, stay so.
        self.assertEqual(last("begin 3 2, rule 85, closed"), [1])
        self.assertEqual(last(f"begin 3 2, rule {1 + 8 + 16 + 128}, closed"), [1])
        self.assertEqual(last(f"begin 3 2, rule {1 + 8 + 32 + 64}, closed"), [0])

    def test_whatever_the_deeds_are(self):
        self.assertEqual(firsts("begin 2 2, rule 7, closed, deed 0 0 1 0, closed, keeps 4"), [0, 0, 0, 0, 0, 1])
        self.assertEqual(firsts(ALL_LET, "closed, allow 15, do 0 0, closed")[5:], [1, 0, 1, 1])

    def test_a_closed_rule_is_kept_with_any_deeds(self):
        chance = random.Random(10)
        met = 0
        for turn in range(300):
            facts = chance.randrange(2, 4)
            line = [("begin", [facts, 2])] + [("deed", some_deed(chance, facts)) for number in range(6)]
            line += [("rule", [1 | chance.randrange(2 ** 2 ** facts) & chance.randrange(2 ** 2 ** facts)])]
            closed, kept = told_by_package(line + [("closed", []), ("keeps", [4])])[-2:]
            if closed == [1]:
                self.assertEqual(kept, [1])
                met += 1
        self.assertGreater(met, 30)


class Refused(unittest.TestCase):
    def test_nothing_changes(self):
        line = f"{BY_THREE}, allow 3, do 0 0, do 1 1, back"
        refused = f"keeps 0, keeps 5, broken 0, broken 5, broken 2, broken {LARGEST}"
        self.assertEqual(seen(f"{line}, {refused}", 2), seen(line, 2))
        self.assertEqual(firsts(line, refused, "again, ahead")[-2:], [0, 3])


if __name__ == "__main__":
    unittest.main()
