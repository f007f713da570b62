"""A slow model of the document's words, and lines that are drawn for it.

The model counts in sets of facts and tries every row of copies; it shares nothing with the package.
"""

import functools
import itertools

from lines import AT_A_COPY, BY_COPIES, LARGEST, LOOKS, NAMES, call, split_answers
from noasking.copies import answers


def facts_of(number):
    return frozenset(fact for fact in range(number.bit_length()) if number >> fact & 1)


def number_of(facts):
    return sum(2 ** fact for fact in facts)


def together(common, states):
    changed = frozenset().union(*(state ^ common for state in states))
    return common ^ changed


def numbers_of(sets):
    return sorted(number_of(one) for one in sets)


def counted(found):
    return [len(found)] + found


def comes(let, deed, state):
    need, be, on, off = deed
    if state & need != be:
        return -6
    after = (state | on) - off
    return after if after in let else -33


def reached(let, deeds, state, seen=()):
    """All states to which deeds lead from a state, one behind another."""
    seen = {state, *seen}
    for deed in deeds:
        after = comes(let, deed, state)
        if isinstance(after, frozenset) and after not in seen:
            seen |= reached(let, deeds, after, seen)
    return frozenset(seen)


@functools.lru_cache(maxsize=None)
def first_rows(common, states, many):
    """Of every state that is put together of so many of the states, the first row, not falling, of which it is."""
    found = {}
    for row in itertools.combinations_with_replacement(sorted(states, key=number_of), many):
        found.setdefault(together(common, row), row)
    return found


@functools.lru_cache(maxsize=None)
def broken_from(let, deeds, many):
    """The first state that is let from which the rule is broken, with the first row that breaks it; or None."""
    for common in sorted(let, key=number_of):
        rows = first_rows(common, reached(let, deeds, common), many)
        breaking = [(numbers_of(row), number_of(state)) for state, row in rows.items() if state not in let]
        if breaking:
            row, state = min(breaking)
            return [number_of(common)] + row + [state]
    return None


def parts_of(many):
    """All sets of so many numbered things."""
    return [frozenset(part) for size in range(many + 1) for part in itertools.combinations(range(many), size)]


class Model:
    def __init__(self, facts, copies):
        self.facts = frozenset(range(facts))
        self.let = frozenset(facts_of(state) for state in range(2 ** facts))
        self.deeds = ()
        self.allowed = frozenset()
        self.told = {state: 0 for state in range(2 ** facts)}
        self.common = frozenset()
        self.copies = (frozenset(),) * copies

    def copy(self):
        other = Model.__new__(Model)
        other.__dict__.update(self.__dict__, told=dict(self.told))
        return other

    def ahead(self):
        return together(self.common, self.copies)

    def free(self, chosen):
        return broken_from(self.let, tuple(self.deeds[number] for number in sorted(chosen)), len(self.facts)) is None

    def all_free(self):
        return [part for part in parts_of(len(self.deeds)) if self.free(part)]

    def become(self, state):
        self.common = state
        self.copies = (state,) * len(self.copies)

    def apart(self):
        return any(state != self.common for state in self.copies)

    def rule(self, states):
        if self.apart():
            return -16
        if states >= 2 ** 2 ** len(self.facts):
            return -22
        let = frozenset(facts_of(state) for state in facts_of(states))
        if self.common not in let:
            return -33
        self.let, self.allowed = let, frozenset()
        return 0

    def deed(self, *numbers):
        if self.apart():
            return -16
        need, be, on, off = map(facts_of, numbers)
        if not need | be | on | off <= self.facts or not be <= need or on & off:
            return -22
        if len(self.deeds) == 6:
            return -28
        self.deeds, self.allowed = self.deeds + ((need, be, on, off),), frozenset()
        return len(self.deeds) - 1

    def drop(self, number):
        if self.apart():
            return -16
        if number not in range(len(self.deeds)):
            return -2
        self.deeds, self.allowed = self.deeds[:number] + self.deeds[number + 1:], frozenset()
        return len(self.deeds)

    def allow(self, chosen):
        if self.apart():
            return -16
        if not facts_of(chosen) <= frozenset(range(len(self.deeds))):
            return -22
        if not self.free(facts_of(chosen)):
            return -33
        before, self.allowed = self.allowed, facts_of(chosen)
        return number_of(before)

    def set(self, state):
        if self.apart():
            return -16
        if not facts_of(state) <= self.facts:
            return -22
        if facts_of(state) not in self.let:
            return -33
        before = number_of(self.common)
        self.become(facts_of(state))
        return before

    def answer(self, state, things):
        if state not in self.told or things not in range(8):
            return -22
        before, self.told[state] = self.told[state], things
        return before

    def do(self, copy, number):
        if copy not in range(len(self.copies)) or number not in range(len(self.deeds)):
            return -2
        if number not in self.allowed:
            return -35
        after = comes(self.let, self.deeds[number], self.copies[copy])
        if isinstance(after, int):
            return after
        self.copies = self.copies[:copy] + (after,) + self.copies[copy + 1:]
        return number_of(after)

    def ask(self, number):
        if number not in range(len(self.deeds)):
            return -2
        after = comes(self.let, self.deeds[number], self.ahead())
        if isinstance(after, int):
            return after
        self.become(after)
        return number_of(after)

    def gather(self):
        self.become(self.ahead())
        return number_of(self.common)

    def look_copies(self):
        return [len(self.copies), number_of(self.common)] + [number_of(state) for state in self.copies]

    def look_ahead(self):
        return [number_of(self.ahead())]

    def look_differ(self):
        return counted([copy for copy, state in enumerate(self.copies) if state != self.common])

    def look_can_do(self, copy):
        return counted([number for number in range(len(self.deeds)) if self.copy().do(copy, number) >= 0])

    def look_can_ask(self):
        return counted([number for number in range(len(self.deeds)) if self.copy().ask(number) >= 0])

    def reach(self, state):
        return reached(self.let, [self.deeds[number] for number in self.allowed], state)

    def look_reach(self, copy):
        return counted(numbers_of(self.reach(self.copies[copy])))

    def look_keeps(self, many):
        if many not in (1, 2, 3, 4):
            return [-22]
        return [0 if broken_from(self.let, self.deeds, many) else 1]

    def look_broken(self, many):
        if many not in (1, 2, 3, 4):
            return [-22]
        return broken_from(self.let, self.deeds, many) or [-33]

    def look_fewest(self):
        return [next((many for many in range(1, 6) if broken_from(self.let, self.deeds, many)), -33)]

    def look_clashes(self):
        found = []
        for first, second in itertools.combinations_with_replacement(range(len(self.deeds)), 2):
            for common in self.let:
                states = [comes(self.let, self.deeds[number], common) for number in (first, second)]
                if -6 not in states and -33 not in states and together(common, states) not in self.let:
                    found += [first, second]
                    break
        return [len(found) // 2] + found

    def look_most_free(self):
        free = self.all_free()
        return counted(numbers_of(part for part in free if not any(part < other for other in free)))

    def look_asked(self):
        everything = frozenset(range(len(self.deeds)))
        without = [everything - part for part in self.all_free()]
        fewest = min(len(part) for part in without)
        return [fewest] + numbers_of(part for part in without if len(part) == fewest)

    def look_closed(self):
        return [int(all(together(common, [one, other]) in self.let
                        for common, one, other in itertools.product(self.let, repeat=3)))]

    def look_told(self, copy):
        return [self.told[number_of(self.copies[copy])]]

    def come(self, copy):
        """What may come, as one copy can know."""
        others = [self.reach(self.common)] * (len(self.copies) - 1)
        return {together(self.common, row) for row in itertools.product([self.copies[copy]], *others)}

    def look_may_come(self, copy):
        return counted(numbers_of(self.come(copy)))

    def look_sure(self, copy):
        told = [facts_of(self.told[number_of(state)]) for state in self.come(copy)]
        return [number_of(frozenset.intersection(*told))]

    def look_may(self, copy):
        told = [facts_of(self.told[number_of(state)]) for state in self.come(copy)]
        return [number_of(frozenset.union(*told))]

    def look_state(self):
        return [len(self.facts), len(self.copies), sum(2 ** number_of(state) for state in self.let),
                len(self.deeds), number_of(self.allowed)]

    def look(self, name, numbers):
        if name in AT_A_COPY and numbers[0] not in range(len(self.copies)):
            return [-2]
        return getattr(self, "look_" + name)(*numbers)


class Line:
    """All models there were, and at which of them one stands."""

    def __init__(self):
        self.models = []
        self.at = 0

    def now(self):
        return self.models[self.at]

    def answer(self, name, numbers):
        if name == "begin":
            if numbers[0] not in (1, 2, 3, 4) or numbers[1] not in (2, 3, 4):
                return [-22]
            self.models, self.at = [Model(*numbers)], 0
            return [0]
        if not self.models:
            return [-61]
        if name == "back":
            return [self.step(-1, self.at)]
        if name == "again":
            return [self.step(1, len(self.models) - 1 - self.at)]
        if name in LOOKS:
            return self.now().look(name, numbers)
        model = self.now().copy()
        answered = getattr(model, name)(*numbers)
        if answered >= 0:
            self.models = (self.models[:self.at + 1] + [model])[-11:]
            self.at = len(self.models) - 1
        return [answered]

    def step(self, way, many):
        if many == 0:
            return -2
        self.at += way
        return many - 1


def some_deed(chance, facts):
    if chance.random() < 0.25:
        # Of such deeds three or four copies may break what two keep.
        return [2 ** facts - 1, 0, 1 << chance.randrange(facts), 0]
    need = chance.randrange(2 ** facts)
    on = chance.randrange(2 ** facts)
    if chance.random() < 0.6:
        # Deeds that need little and change little meet more often, so that there is something to break.
        need &= chance.randrange(2 ** facts) & chance.randrange(2 ** facts)
        on = 1 << chance.randrange(facts)
        off = 0 if chance.random() < 0.7 else on
        return [need, need & chance.randrange(2 ** facts), on & ~off, off]
    sets = [need, need & chance.randrange(2 ** facts), on, chance.randrange(2 ** facts) & ~on]
    if chance.random() < 0.1:
        sets[chance.randrange(4)] = chance.choice((2 ** facts, LARGEST, 2 ** facts - 1))
    return sets


def some_rule(chance, facts):
    rule = 2 ** 2 ** facts - 1
    if chance.random() < 0.25:
        return rule >> 1
    for forbidden in range(chance.randrange(5)):
        rule &= ~(1 << chance.randrange(2 ** facts))
    return chance.choice((rule, rule, rule, rule, 2 ** 2 ** facts, LARGEST)) if chance.random() < 0.2 else rule


def some_numbers(chance, name, facts, copies):
    if name == "begin":
        return chance.choice(([facts, copies], [facts, copies], [0, 2], [5, 2], [2, 1], [2, 5]))
    if name == "rule":
        return [some_rule(chance, facts)]
    if name == "deed":
        return some_deed(chance, facts)
    if name in ("drop", "ask"):
        return [chance.randrange(6)]
    if name == "allow":
        return [chance.randrange(chance.choice((2, 4, 8, 16, 64)))]
    if name == "set":
        return [chance.randrange(2 ** facts + 1)]
    if name == "answer":
        return [chance.randrange(2 ** facts + 1), chance.randrange(9)]
    if name == "do":
        return [some_copy(chance, copies), chance.randrange(4)]
    if name in AT_A_COPY:
        return [some_copy(chance, copies)]
    if name in BY_COPIES:
        return [chance.choice((0, 1, 2, 2, 3, 3, 4, 4, 5, LARGEST))]
    return []


def some_copy(chance, copies):
    return chance.choice((copies, copies + 1, LARGEST)) if chance.random() < 0.05 else chance.randrange(copies)


WEIGHTS = {"begin": 0.3, "rule": 2, "deed": 2, "drop": 1, "allow": 6, "set": 2, "answer": 4, "do": 30, "ask": 3,
           "gather": 3, "back": 5, "again": 4} | dict.fromkeys(LOOKS, 3)


def some_line(chance, weights=WEIGHTS):
    """A line of calls, each a name and its numbers."""
    facts, copies = chance.choice((1, 2, 2, 3, 3, 3, 3, 4)), chance.randrange(2, 5)
    line = [("begin", [facts, copies])] if chance.random() < 0.95 else []
    line += [("deed", some_deed(chance, facts)) for turn in range(chance.randrange(7))]
    line += [("rule", [some_rule(chance, facts)])]
    line += [("allow", [chance.randrange(64)]) for turn in range(chance.randrange(4))]
    line += [("answer", [state, chance.choice((7, 6, 5, 3))]) for state in range(chance.randrange(2 ** facts + 1))]
    names = chance.choices(list(weights), list(weights.values()), k=60 - len(line))
    return line + [(name, some_numbers(chance, name, facts, copies)) for name in names]


def named(text):
    """A call as a name and its numbers: named("do 0 1") is ("do", [0, 1])."""
    number, *numbers = call(text)
    return NAMES[number], numbers


def told_by_package(line):
    return split_answers(answers([number for name, numbers in line for number in [NAMES.index(name)] + numbers]))
