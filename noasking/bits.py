"""Sets told as whole numbers: 2 to the power of each member's number, together."""


def has(whole, number):
    return (whole >> number) & 1 == 1


def lies_below(whole, bound):
    """Whether every member's number is below bound."""
    return whole >> bound == 0


def lies_in(part, whole):
    return part & whole == part


def size(whole):
    """How many members there are."""
    many = 0
    while whole > 0:
        many = many + (whole & 1)
        whole = whole >> 1
    return many
