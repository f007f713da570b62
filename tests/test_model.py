"""Many lines against a slow model of the document's words, and what holds of every one of them.

The model counts in sets of facts and tries every row of copies; it shares nothing with the package.
"""

import itertools
import random
import unittest

from lines import LARGEST, NAMES, calls_of, split_answers
from noasking.copies import answers

LINES = 1500


def facts_of(number):
    return frozenset(fact for fact in range(number.bit_length()) if number >> fact & 1)


def number_of(facts):
    return sum(2 ** fact for fact in facts)


def together(common, states):
    changed = frozenset().union(*(state ^ common for state in states))
    return common ^ changed


class Model:
    def __init__(self, facts, copies):
        self.facts = frozenset(range(facts))
        self.let = {facts_of(state) for state in range(2 ** facts)}
        self.deeds = ()
        self.allowed = frozenset()
        self.told = {state: 0 for state in range(2 ** facts)}
        self.common = frozenset()
        self.copies = (frozenset(),) * copies

    def copy(self):
        other = Model.__new__(Model)
        other.__dict__.update(self.__dict__, let=set(self.let), told=dict(self.told))
        return other

    def seen(self):
        return (self.facts, self.let, self.deeds, self.allowed, self.told, self.common, self.copies)

    def ahead(self):
        return together(self.common, self.copies)

    def comes(self, deed, state):
        need, be, on, off = deed
        if state & need != be:
            return -6
        after = (state | on) - off
        return after if after in self.let else -33

    def reached(self, deeds, state, seen):
        seen.add(state)
        for deed in deeds:
            after = self.comes(deed, state)
            if isinstance(after, frozenset) and after not in seen:
                self.reached(deeds, after, seen)
        return seen

    def free(self, chosen):
        deeds = [self.deeds[number] for number in chosen]
        for common in self.let:
            reached = self.reached(deeds, common, set())
            for row in itertools.combinations_with_replacement(reached, len(self.facts)):
                if together(common, row) not in self.let:
                    return False
        return True

    def become(self, state):
        self.common = state
        self.copies = (state,) * len(self.copies)

    def apart(self):
        return any(state != self.common for state in self.copies)

    def rule(self, states):
        if self.apart():
            return -16
        if states >= 2 ** 2 ** len(self.facts):
            return -22
        let = {facts_of(state) for state in facts_of(states)}
        if self.common not in let:
            return -33
        self.let, self.allowed = let, frozenset()
        return 0

    def deed(self, *numbers):
        if self.apart():
            return -16
        need, be, on, off = map(facts_of, numbers)
        if not need | be | on | off <= self.facts or not be <= need or on & off:
            return -22
        if len(self.deeds) == 6:
            return -28
        self.deeds, self.allowed = self.deeds + ((need, be, on, off),), frozenset()
        return len(self.deeds) - 1

    def drop(self, number):
        if self.apart():
            return -16
        if number not in range(len(self.deeds)):
            return -2
        self.deeds, self.allowed = self.deeds[:number] + self.deeds[number + 1:], frozenset()
        return len(self.deeds)

    def allow(self, chosen):
        if self.apart():
            return -16
        if not facts_of(chosen) <= frozenset(range(len(self.deeds))):
            return -22
        if not self.free(facts_of(chosen)):
            return -33
        before, self.allowed = self.allowed, facts_of(chosen)
        return number_of(before)

    def set(self, state):
        if self.apart():
            return -16
        if not facts_of(state) <= self.facts:
            return -22
        if facts_of(state) not in self.let:
            return -33
        before = number_of(self.common)
        self.become(facts_of(state))
        return before

    def answer(self, state, things):
        if state not in self.told or things not in range(8):
            return -22
        before, self.told[state] = self.told[state], things
        return before

    def do(self, copy, number):
        if copy not in range(len(self.copies)) or number not in range(len(self.deeds)):
            return -2
        if number not in self.allowed:
            return -35
        after = self.comes(self.deeds[number], self.copies[copy])
        if isinstance(after, int):
            return after
        self.copies = self.copies[:copy] + (after,) + self.copies[copy + 1:]
        return number_of(after)

    def ask(self, number):
        if number not in range(len(self.deeds)):
            return -2
        after = self.comes(self.deeds[number], self.ahead())
        if isinstance(after, int):
            return after
        self.become(after)
        return number_of(after)

    def gather(self):
        self.become(self.ahead())
        return number_of(self.common)

    def look(self, name):
        if name == "ahead":
            return [number_of(self.ahead())]
        if name == "copies":
            return [len(self.copies), number_of(self.common)] + [number_of(state) for state in self.copies]
        found = [copy for copy, state in enumerate(self.copies) if state != self.common]
        return [len(found)] + found


class Line:
    """All models there were, and at which of them one stands."""

    def __init__(self):
        self.models = []
        self.at = 0

    def now(self):
        return self.models[self.at]

    def answer(self, name, numbers):
        if name == "begin":
            if numbers[0] not in (1, 2, 3, 4) or numbers[1] not in (2, 3, 4):
                return [-22]
            self.models, self.at = [Model(*numbers)], 0
            return [0]
        if not self.models:
            return [-61]
        if name == "back":
            return [self.step(-1, self.at)]
        if name == "again":
            return [self.step(1, len(self.models) - 1 - self.at)]
        if name in ("copies", "ahead", "differ"):
            return self.now().look(name)
        model = self.now().copy()
        answered = getattr(model, name)(*numbers)
        if answered >= 0:
            self.models = (self.models[:self.at + 1] + [model])[-11:]
            self.at = len(self.models) - 1
        return [answered]

    def step(self, way, many):
        if many == 0:
            return -2
        self.at += way
        return many - 1


def some_deed(chance, facts):
    need = chance.randrange(2 ** facts)
    on = chance.randrange(2 ** facts)
    sets = [need, need & chance.randrange(2 ** facts), on, chance.randrange(2 ** facts) & ~on]
    if chance.random() < 0.05:
        sets[chance.randrange(4)] = chance.choice((2 ** facts, LARGEST, 2 ** facts - 1))
    return sets


def some_rule(chance, facts):
    rule = 2 ** 2 ** facts - 1
    for forbidden in range(chance.randrange(4)):
        rule &= ~(1 << chance.randrange(2 ** facts))
    return chance.choice((rule, rule, rule, rule, 2 ** 2 ** facts, LARGEST)) if chance.random() < 0.2 else rule


def some_numbers(chance, name, facts, copies):
    if name == "begin":
        return chance.choice(([facts, copies], [facts, copies], [0, 2], [5, 2], [2, 1], [2, 5]))
    if name == "rule":
        return [some_rule(chance, facts)]
    if name == "deed":
        return some_deed(chance, facts)
    if name in ("drop", "ask"):
        return [chance.randrange(6)]
    if name == "allow":
        return [chance.randrange(chance.choice((2, 4, 8, 16, 64)))]
    if name == "set":
        return [chance.randrange(2 ** facts + 1)]
    if name == "answer":
        return [chance.randrange(2 ** facts + 1), chance.randrange(9)]
    if name == "do":
        return [chance.randrange(copies + 1) if chance.random() < 0.2 else chance.randrange(copies), chance.randrange(4)]
    return []


WEIGHTS = {"begin": 0.3, "rule": 2, "deed": 2, "drop": 1, "allow": 6, "set": 2, "answer": 2, "do": 24, "ask": 3,
           "gather": 3, "back": 5, "again": 4, "copies": 6, "ahead": 3, "differ": 3}


def some_line(chance):
    """A line of calls, each a name and its numbers."""
    facts, copies = chance.choice((1, 2, 2, 3, 3, 4)), chance.randrange(2, 5)
    line = [("begin", [facts, copies])] if chance.random() < 0.95 else []
    line += [("deed", some_deed(chance, facts)) for turn in range(chance.randrange(5))]
    names = chance.choices(list(WEIGHTS), list(WEIGHTS.values()), k=60 - len(line))
    return line + [(name, some_numbers(chance, name, facts, copies)) for name in names]


def told_by_package(line):
    return split_answers(answers([number for name, numbers in line for number in [NAMES.index(name)] + numbers]))


class AgainstTheModel(unittest.TestCase):
    def test_many_lines(self):
        chance = random.Random(1)
        met = {}
        for turn in range(LINES):
            line = some_line(chance)
            model = Line()
            told = [model.answer(name, numbers) for name, numbers in line]
            self.assertEqual(told_by_package(line), told, line)
            for (name, numbers), answered in zip(line, told):
                key = (name, min(answered[0], 0))
                met[key] = met.get(key, 0) + 1
        self.check_met(met)

    def check_met(self, met):
        # Lines that never meet a refusal would show nothing of it.
        refusals = {"begin": (-22,), "rule": (-16, -22, -33), "deed": (-16, -22, -28), "drop": (-16, -2),
                    "allow": (-16, -22, -33), "set": (-16, -22, -33), "answer": (-22,), "do": (-2, -35, -6, -33),
                    "ask": (-2, -6, -33), "gather": (), "back": (-2,), "again": (-2,), "copies": (), "ahead": (),
                    "differ": ()}
        for name, numbers in refusals.items():
            for number in (0,) + numbers + ((-61,) if name != "begin" else ()):
                self.assertGreater(met.get((name, number), 0), 0, (name, number))

    def test_every_rule_and_two_deeds_of_two_facts(self):
        deeds = ["0 0 1 0", "0 0 2 0", "1 1 2 0", "2 0 1 0", "1 1 0 1", "3 3 0 3", "3 1 2 1"]
        for rule in range(1, 16, 2):
            for first, second in itertools.product(deeds, repeat=2):
                line = f"begin 2 2, deed {first}, deed {second}, rule {rule}, allow 1, allow 2, allow 3"
                model = Line()
                told = [model.answer(NAMES[number], numbers) for number, numbers in split_calls(calls_of(line))]
                self.assertEqual(split_answers(answers(calls_of(line))), told, line)


def split_calls(calls):
    sizes = {0: 2, 1: 1, 2: 4, 4: 1}
    at = 0
    while at < len(calls):
        behind = at + 1 + sizes[calls[at]]
        yield calls[at], calls[at + 1:behind]
        at = behind


class WhatHolds(unittest.TestCase):
    """Points a, c and d, seen through the package's own answers."""

    def setUp(self):
        chance = random.Random(2)
        self.lines = [some_line(chance) for turn in range(150)]

    def test_the_rule_is_kept(self):
        # The model knows which states are let; where the copies stand is the package's own word.
        for line in self.lines:
            line = [one for call in line[:29] for one in (call, ("copies", []))]
            line = line[:58] + [("copies", []), ("ahead", [])]
            model = Line()
            for (name, numbers), answered in zip(line, told_by_package(line)):
                model.answer(name, numbers)
                if name == "copies" and answered != [-61]:
                    common, states = facts_of(answered[1]), [facts_of(state) for state in answered[2:]]
                    self.assertLessEqual({common, together(common, states), *states}, model.now().let, line)

    def test_to_ask_and_to_do_answer_the_same_while_together(self):
        compared = 0
        for line in self.lines:
            for until in range(0, 58, 7):
                ahead = line[:until] + [("gather", [])]
                for number in range(4):
                    done = told_by_package(ahead + [("do", [1, number])])[-1]
                    if done not in ([-35], [-2], [-61]):
                        self.assertEqual(told_by_package(ahead + [("ask", [number])])[-1], done, ahead)
                        compared += 1
        self.assertGreater(compared, 300)

    def test_gathered_all_have_one_state_and_gathered_again_nothing_changes(self):
        for line in self.lines:
            calls = [("gather", []), ("copies", []), ("differ", []), ("gather", []), ("copies", [])]
            first, seen, differ, second, again = told_by_package(line[:55] + calls)[-5:]
            if first != [-61]:
                self.assertEqual((second, again, differ), (first, seen, [0]))
                self.assertEqual(set(seen[1:]), set(first))

    def test_taken_back_and_done_again_it_is_as_it_was(self):
        for line in self.lines:
            for many in (1, 3):
                behind = line[52:52 + 8 - 2 * many]
                straight = told_by_package(line[:52] + behind)
                steps = [("back", [])] * many + [("again", [])] * many
                bent = told_by_package(line[:52] + steps + behind)
                if bent[52 + many - 1][0] >= 0:
                    self.assertEqual(bent[52 + 2 * many:], straight[52:], line)

    def test_what_is_refused_and_looking_changes_nothing(self):
        for line in self.lines:
            told = told_by_package(line)
            kept = [at for at, (name, numbers) in enumerate(line)
                    if told[at][0] >= 0 and name not in ("copies", "ahead", "differ")]
            self.assertEqual(told_by_package([line[at] for at in kept]), [told[at] for at in kept], line)


if __name__ == "__main__":
    unittest.main()
