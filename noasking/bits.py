"""Sets told as whole numbers: 2 to the power of each member's number, together."""


def has(whole, number):
    return (whole >> number) & 1 == 1


def lies_below(whole, bound):
    """Whether every member's number is below bound."""
    return whole >> bound == 0


def lies_in(part, whole):
    return part & whole == part
