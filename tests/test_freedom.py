"""Point 5: clashes, most_free and asked."""

import itertools
import random
import unittest

from lines import firsts, last, run, seen
from model import named, some_deed, some_rule, told_by_package

BY_TWO = "begin 2 2, deed 0 0 1 0, deed 0 0 2 0, rule 7"
BY_THREE = "begin 3 2, deed 7 0 1 0, deed 7 0 2 0, deed 7 0 4 0, rule 127"
# Each of three facts may come, and no two at once are let.
ALONE = "begin 3 2, deed 0 0 1 0, deed 0 0 2 0, deed 0 0 4 0, rule 23"
SIX = "deed 0 0 1 0, deed 0 0 2 0, deed 0 0 4 0, deed 0 0 8 0, deed 0 0 15 0, deed 0 0 0 15"


def parts_of(chosen):
    return [part for part in range(chosen + 1) if part & chosen == part]


def size(chosen):
    return bin(chosen).count("1")


class Clashes(unittest.TestCase):
    def test_no_deeds(self):
        self.assertEqual(last("begin 2 2, clashes"), [0])

    def test_all_is_let(self):
        self.assertEqual(last("begin 4 2", SIX, "clashes"), [0])

    def test_two_clash(self):
        self.assertEqual(last(BY_TWO, "clashes"), [1, 0, 1])

    def test_in_order(self):
        self.assertEqual(last(ALONE, "clashes"), [3, 0, 1, 0, 2, 1, 2])
        self.assertEqual(last(ALONE, "deed 0 0 1 0, clashes"), [5, 0, 1, 0, 2, 1, 2, 1, 3, 2, 3])

    def test_the_lesser_number_first(self):
        self.assertEqual(last("begin 2 2, deed 0 0 2 0, deed 0 0 0 0, deed 0 0 1 0, rule 7, clashes"), [1, 0, 2])

    def test_a_deed_with_itself(self):
        # Two copies that did the same have the same state, and that is let.
        for on, off in itertools.product(range(4), repeat=2):
            if on & off == 0:
                for rule in range(1, 16, 2):
                    line = f"begin 2 2, deed 0 0 {on} {off}, rule {rule}, clashes"
                    self.assertEqual(last(line), [0])

    def test_two_deeds_that_are_alike(self):
        self.assertEqual(last("begin 2 2, deed 0 0 1 0, deed 0 0 1 0, rule 3, clashes"), [0])

    def test_each_has_to_be_done_at_a_copy(self):
        # One of them leads to what isn't let from everywhere.
        self.assertEqual(last("begin 2 2, deed 0 0 1 0, deed 0 0 2 0, rule 3, clashes"), [0])

    def test_both_from_one_state(self):
        # Deed 1 needs what deed 0 needs not to be so.
        self.assertEqual(last("begin 3 2, deed 4 0 1 0, deed 4 4 2 0, rule 119, clashes"), [0])
        self.assertEqual(last("begin 3 2, deed 4 4 1 0, deed 4 4 2 0, rule 119, clashes"), [1, 0, 1])

    def test_from_any_state_that_is_let(self):
        self.assertEqual(last("begin 3 2, deed 4 4 1 0, deed 4 4 2 0, rule 127, clashes"), [1, 0, 1])
        self.assertEqual(last("begin 3 2, deed 4 4 1 0, deed 4 4 2 0, rule 111, clashes"), [0])

    def test_facts_that_go(self):
        self.assertEqual(last("begin 2 2, set 3, deed 0 0 0 1, deed 0 0 0 2, rule 14, clashes"), [1, 0, 1])

    def test_one_step_alone_counts(self):
        # Any two are let together, all three are not; and 3, which comes of two deeds, with 4 isn't.
        self.assertEqual(last(BY_THREE, "clashes"), [0])
        line = "begin 3 2, rule 127, deed 7 0 1 0, deed 7 1 2 0, deed 7 0 4 0"
        self.assertEqual(run(line, "clashes, broken 2")[-2:], [[0], [0, 3, 4, 7]])

    def test_whatever_is_allowed_and_done(self):
        self.assertEqual(last(BY_TWO, "allow 2, do 0 1, clashes"), [1, 0, 1])

    def test_those_behind_a_dropped_one(self):
        self.assertEqual(last(ALONE, "drop 1, clashes"), [1, 0, 1])


class MostFree(unittest.TestCase):
    def test_no_deeds(self):
        self.assertEqual(last("begin 2 2, most_free"), [1, 0])
        self.assertEqual(last("begin 4 4, rule 1, most_free"), [1, 0])

    def test_one_deed(self):
        self.assertEqual(last("begin 2 2, deed 0 0 1 0, most_free"), [1, 1])
        self.assertEqual(last("begin 2 2, deed 0 0 3 0, rule 9, most_free"), [1, 1])

    def test_all_are_free(self):
        self.assertEqual(last("begin 4 2", SIX, "most_free"), [1, 63])

    def test_several(self):
        self.assertEqual(last(BY_TWO, "most_free"), [2, 1, 2])
        self.assertEqual(last(BY_THREE, "most_free"), [3, 3, 5, 6])
        self.assertEqual(last(ALONE, "most_free"), [3, 1, 2, 4])

    def test_of_different_sizes(self):
        # Deed 2 does nothing, deed 1 clashes with 0 and 3, which go together.
        line = "begin 3 2, deed 4 0 1 0, deed 4 0 2 0, deed 0 0 0 0, deed 0 0 4 0"
        self.assertEqual(last(line, f"rule {255 - 8 - 64 - 128}, most_free"), [2, 6, 13])

    def test_as_many_copies_as_there_are_facts(self):
        # Though there are but two copies.
        line = "begin 4 2, deed 15 0 1 0, deed 15 0 2 0, deed 15 0 4 0, deed 15 0 8 0, rule 32767"
        self.assertEqual(last(line, "most_free"), [4, 7, 11, 13, 14])

    def test_deeds_that_do_not_clash_but_are_not_free(self):
        line = "begin 3 2, rule 127, deed 7 0 1 0, deed 7 1 2 0, deed 7 0 4 0"
        self.assertEqual(run(line, "clashes, most_free, asked")[-3:], [[0], [3, 3, 5, 6], [1, 1, 2, 4]])

    def test_whatever_is_allowed_and_done(self):
        self.assertEqual(last(BY_TWO, "allow 2, do 0 1, most_free"), [2, 1, 2])


class Asked(unittest.TestCase):
    def test_no_deed_has_to_be_asked_for(self):
        self.assertEqual(last("begin 2 2, asked"), [0, 0])
        self.assertEqual(last("begin 2 2, deed 0 0 1 0, asked"), [0, 0])
        self.assertEqual(last("begin 4 2", SIX, "asked"), [0, 0])

    def test_one(self):
        # Deed 1 goes with none of the others.
        line = "begin 3 2, deed 4 0 1 0, deed 4 0 2 0, deed 0 0 0 0, deed 0 0 4 0"
        self.assertEqual(last(line, f"rule {255 - 8 - 64 - 128}, asked"), [1, 2])

    def test_one_of_several(self):
        self.assertEqual(last(BY_TWO, "asked"), [1, 1, 2])
        self.assertEqual(last(BY_THREE, "asked"), [1, 1, 2, 4])

    def test_two_of_several(self):
        self.assertEqual(last(ALONE, "asked"), [2, 3, 5, 6])

    def test_not_every_greatest_free_set_leaves_out_the_fewest(self):
        line = "begin 3 2, deed 4 0 1 0, deed 4 0 2 0, deed 0 0 0 0, deed 0 0 4 0"
        self.assertEqual(firsts(line, f"rule {255 - 8 - 64 - 128}, allow 6, allow 13, asked")[-3:], [0, 6, 1])

    def test_behind_drop_and_back(self):
        self.assertEqual(run(ALONE, "drop 0, asked, back, asked")[-3::2], [[1, 1, 2], [2, 3, 5, 6]])


class FreeAndAllowed(unittest.TestCase):
    def drawn(self):
        chance = random.Random(11)
        for turn in range(300):
            facts = chance.randrange(1, 5)
            line = [("begin", [facts, 2])] + [("deed", some_deed(chance, facts)) for number in range(turn % 7)]
            yield line + [("rule", [some_rule(chance, facts)])]

    def looks(self, line):
        return told_by_package(line + [named(look) for look in ("state", "most_free", "asked", "clashes")])[-4:]

    def allowed(self, line, chosen):
        return told_by_package(line + [("allow", [chosen])])[-1][0]

    def test_allow_takes_each_that_is_told_and_what_lies_in_it_and_nothing_else(self):
        several = 0
        for line in self.drawn():
            state, (many, *most), asked, clashes = self.looks(line)
            self.assertEqual((many, most), (len(most), sorted(most)))
            free = {part for one in most for part in parts_of(one)}
            for chosen in range(2 ** state[3]):
                self.assertEqual(self.allowed(line, chosen), 0 if chosen in free else -33)
            several += many > 1
        self.assertGreater(several, 20)

    def test_none_lies_in_another(self):
        for line in self.drawn():
            most = self.looks(line)[1][1:]
            self.assertFalse(any(one != other and one & other == one for one in most for other in most))

    def test_asked_leaves_out_the_fewest(self):
        for line in self.drawn():
            state, (many, *most), (fewest, *sets), clashes = self.looks(line)
            everything = 2 ** state[3] - 1
            self.assertEqual(sets, [chosen for chosen in range(everything + 1) if size(chosen) == fewest
                                    and self.allowed(line, everything & ~chosen) == 0])
            self.assertNotEqual(sets, [])
            self.assertEqual(fewest, state[3] - max(size(one) for one in most))

    def test_two_that_clash_are_not_free_together(self):
        met = 0
        for line in self.drawn():
            state, (many, *most), asked, (count, *clashes) = self.looks(line)
            twos = list(zip(clashes[::2], clashes[1::2]))
            self.assertEqual((count, twos), (len(twos), sorted(set(twos))))
            for first, second in twos:
                self.assertLess(first, second)
                self.assertFalse(any(one >> first & one >> second & 1 for one in most))
                met += 1
        self.assertGreater(met, 20)

    def test_looking_changes_nothing(self):
        line = f"{BY_THREE}, allow 3, do 0 0, do 1 1, back"
        self.assertEqual(seen(f"{line}, clashes, most_free, asked", 2), seen(line, 2))


if __name__ == "__main__":
    unittest.main()
