"""Which sets of deeds are free: done alone, they keep the rule."""

from noasking.bits import lies_in, size
from noasking.deeds import chosen_of
from noasking.rules import is_kept


def is_free(rule, deeds, facts):
    """Whether these deeds, with no others, keep the rule by as many copies as there are facts."""
    return is_kept(rule, deeds, facts, facts)


def lies_in_one(part, wholes):
    return any([lies_in(part, whole) for whole in wholes])


def greatest_free(rule, deeds, facts):
    """The sets of deeds, rising, that are free and lie in no greater one that is."""
    found = []
    # A set's number is less than that of each greater one it lies in: going down, these are known when its turn comes.
    for chosen in range((1 << len(deeds)) - 1, -1, -1):
        if not lies_in_one(chosen, found) and is_free(rule, chosen_of(deeds, chosen), facts):
            found.append(chosen)
    return sorted(found)


def fewest_without(rule, deeds, facts):
    """The sets of deeds, rising, that are the smallest without which all others are free."""
    everything = (1 << len(deeds)) - 1
    left_out = [everything ^ chosen for chosen in greatest_free(rule, deeds, facts)]
    fewest = min([size(chosen) for chosen in left_out])
    return sorted([chosen for chosen in left_out if size(chosen) == fewest])
