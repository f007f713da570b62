"""Calls by their names, so that a test reads like the document."""

from noasking.copies import answers

NAMES = (
    "begin rule deed drop allow set answer do ask gather back again copies ahead differ can_do can_ask reach "
    "keeps broken fewest clashes most_free asked closed told sure may may_come state"
).split()
SIZES = dict.fromkeys(NAMES, 0) | {
    "begin": 2, "rule": 1, "deed": 4, "drop": 1, "allow": 1, "set": 1, "answer": 2, "do": 2, "ask": 1,
    "can_do": 1, "reach": 1, "keeps": 1, "broken": 1, "told": 1, "sure": 1, "may": 1, "may_come": 1,
}
LARGEST = 2147483647


def call(text):
    """A call as a tuple of its number and those handed over: call("do 0 1") is (7, 0, 1)."""
    name, *numbers = text.split()
    if len(numbers) != SIZES[name]:
        raise ValueError(f"{text!r}: {name} takes {SIZES[name]} numbers")
    return (NAMES.index(name), *map(int, numbers))


def calls_of(line):
    """The calls of a line, which are parted by commas, as one list of whole numbers."""
    return [number for text in line.split(",") for number in call(text)]


def split_answers(numbers):
    """What's answered, a list for each call."""
    found = []
    at = 0
    while at < len(numbers):
        behind = at + 1 + numbers[at]
        if numbers[at] < 1 or behind > len(numbers):
            raise ValueError(f"a wrong count at {at} of {numbers}")
        found.append(numbers[at + 1:behind])
        at = behind
    return found


def run(*lines):
    """What's answered to each call of the lines, which are one line together."""
    return split_answers(answers(calls_of(",".join(lines))))


def last(*lines):
    """What's answered to the last call."""
    return run(*lines)[-1]


def firsts(*lines):
    """The first number that's answered to each call."""
    return [answered[0] for answered in run(*lines)]
