"""The calls' numbers, and a list of calls taken apart."""

BEGIN = 0
RULE = 1
DEED = 2
DROP = 3
ALLOW = 4
SET = 5
ANSWER = 6
DO = 7
ASK = 8
GATHER = 9
BACK = 10
AGAIN = 11
COPIES = 12
AHEAD = 13
DIFFER = 14
CAN_DO = 15
CAN_ASK = 16
REACH = 17
KEEPS = 18
BROKEN = 19
FEWEST = 20
CLASHES = 21
MOST_FREE = 22
ASKED = 23
CLOSED = 24
TOLD = 25
SURE = 26
MAY = 27
MAY_COME = 28
STATE = 29

# How many numbers stand behind each call's own, in the order of the calls.
SIZES = (2, 1, 4, 1, 1, 1, 2, 2, 1, 0, 0, 0, 0, 0, 0, 1, 0, 1, 1, 1, 0, 0, 0, 0, 0, 1, 1, 1, 1, 0)


def take_apart(calls):
    """A list of two for each call: its own number, and the list of those handed over with it."""
    found = []
    at = 0
    while at < len(calls):
        behind = at + 1 + SIZES[calls[at]]
        found.append((calls[at], calls[at + 1:behind]))
        at = behind
    return found
