"""The looks at the rule and the deeds: what's kept or broken, what clashes, what's free.

Each answers a list, and changes nothing.
"""

from noasking.bits import has, size
from noasking.calls import ASKED, BROKEN, CLASHES, FEWEST, KEEPS, MOST_FREE
from noasking.freedom import fewest_without, greatest_free
from noasking.refusals import KEPT, NOT_AS_TOLD
from noasking.rules import do_clash, first_broken, is_closed, is_kept, may_come_to, put_together

MOST_COPIES = 4


def one_longer(rows, states):
    """Each row with each of the states behind it that isn't less than its last."""
    longer = []
    for row in rows:
        longer.extend([row + [state] for state in states if row == [] or row[-1] <= state])
    return longer


def rows_not_falling(states, many):
    """Every row of so many of the states that doesn't fall; the states rise, so the first row comes first."""
    rows = [[]]
    for turn in range(many):
        rows = one_longer(rows, states)
    return rows


def rows_that_break(world, common, copies):
    """The rows, in order, to which so many copies may come from the common state and break the rule."""
    reached = may_come_to(world.rule, world.deeds, common)
    return [row for row in rows_not_falling(reached, copies) if not has(world.rule, put_together(common, row))]


def how_broken(world, copies):
    common = first_broken(world.rule, world.deeds, world.facts, copies)
    if common is None:
        return [KEPT]
    row = rows_that_break(world, common, copies)[0]
    return [common] + row + [put_together(common, row)]


def fewest_that_break(world):
    # One more copy helps only if it changes a fact that no other does, so there are never more than facts.
    for copies in range(1, world.facts + 1):
        if not is_kept(world.rule, world.deeds, world.facts, copies):
            return copies
    return KEPT


def which_clash(world):
    """How many twos of deeds clash, then these."""
    found = []
    for first in range(len(world.deeds)):
        for second in range(first, len(world.deeds)):
            if do_clash(world.rule, world.facts, world.deeds[first], world.deeds[second]):
                found.extend([first, second])
    return [len(found) // 2] + found


def which_are_free(world):
    found = greatest_free(world.rule, world.deeds, world.facts)
    return [len(found)] + found


def which_are_asked(world):
    found = fewest_without(world.rule, world.deeds, world.facts)
    return [size(found[0])] + found


def look_by_copies(world, call, copies):
    """The looks that are told how many copies."""
    if not 1 <= copies <= MOST_COPIES:
        return [NOT_AS_TOLD]
    if call == BROKEN:
        return how_broken(world, copies)
    return [int(is_kept(world.rule, world.deeds, world.facts, copies))]


def look_at_rule(world, call, numbers):
    if call == KEEPS or call == BROKEN:
        return look_by_copies(world, call, numbers[0])
    if call == FEWEST:
        return [fewest_that_break(world)]
    if call == CLASHES:
        return which_clash(world)
    if call == MOST_FREE:
        return which_are_free(world)
    if call == ASKED:
        return which_are_asked(world)
    return [int(is_closed(world.rule, world.facts))]
