"""Calls by their names, so that a test reads like the document."""

from noasking.copies import answers

NAMES = (
    "begin rule deed drop allow set answer do ask gather back again copies ahead differ can_do can_ask reach "
    "keeps broken fewest clashes most_free asked closed told sure may may_come state"
).split()
SIZES = dict.fromkeys(NAMES, 0) | {
    "begin": 2, "rule": 1, "deed": 4, "drop": 1, "allow": 1, "set": 1, "answer": 2, "do": 2, "ask": 1,
    "can_do": 1, "reach": 1, "keeps": 1, "broken": 1, "told": 1, "sure": 1, "may": 1, "may_come": 1,
}
LARGEST = 2147483647
LOOKS = NAMES[NAMES.index("copies"):]
# The looks that are told a copy, and those that are told how many copies.
AT_A_COPY = ("can_do", "reach", "told", "sure", "may", "may_come")
BY_COPIES = ("keeps", "broken")


def call(text):
    """A call as a tuple of its number and those handed over: call("do 0 1") is (7, 0, 1)."""
    name, *numbers = text.split()
    if len(numbers) != SIZES[name]:
        raise ValueError(f"{text!r}: {name} takes {SIZES[name]} numbers")
    return (NAMES.index(name), *map(int, numbers))


def calls_of(line):
    """The calls of a line, which are parted by commas, as one list of whole numbers."""
    return [number for text in line.split(",") for number in call(text)]


def split_answers(numbers):
    """What's answered, a list for each call."""
    found = []
    at = 0
    while at < len(numbers):
        behind = at + 1 + numbers[at]
        if numbers[at] < 1 or behind > len(numbers):
            raise ValueError(f"a wrong count at {at} of {numbers}")
        found.append(numbers[at + 1:behind])
        at = behind
    return found


def run(*lines):
    """What's answered to each call of the lines, which are one line together."""
    return split_answers(answers(calls_of(",".join(lines))))


def last(*lines):
    """What's answered to the last call."""
    return run(*lines)[-1]


def firsts(*lines):
    """The first number that's answered to each call."""
    return [answered[0] for answered in run(*lines)]


def all_looks(copies):
    """Every look, at each copy, and by each number of copies."""
    found = []
    for name in LOOKS:
        if name in AT_A_COPY:
            found += [f"{name} {copy}" for copy in range(copies)]
        elif name in BY_COPIES:
            found += [f"{name} {many}" for many in range(1, 5)]
        else:
            found.append(name)
    return found


def seen(line, copies):
    """All that can be seen behind a line, each look with its answer; no line is longer than 60 calls."""
    room = 60 - len(line.split(","))
    looks = all_looks(copies)
    found = {}
    for at in range(0, len(looks), room):
        some = looks[at:at + room]
        found |= zip(some, run(line, *some)[-len(some):])
    return found
