"""The changes that tell a world something: rule, deed, drop, allow, set and answer.

Each changes the world it is given and answers a number; where that is below 0 nothing was changed.
"""

from noasking.bits import has, lies_below
from noasking.deeds import chosen_of, is_sound
from noasking.freedom import is_free
from noasking.refusals import NONE_SUCH, NOT_AS_TOLD, NOT_LET, NOT_TOGETHER, TOO_MANY
from noasking.world import ALL_THINGS, are_together, make_common

MOST_DEEDS = 6


def tell_rule(world, rule):
    if not are_together(world):
        return NOT_TOGETHER
    if not lies_below(rule, 1 << world.facts):
        return NOT_AS_TOLD
    if not has(rule, world.common):
        return NOT_LET
    world.rule = rule
    world.allowed = 0
    return 0


def tell_deed(world, deed):
    if not are_together(world):
        return NOT_TOGETHER
    if not is_sound(deed, world.facts):
        return NOT_AS_TOLD
    if len(world.deeds) == MOST_DEEDS:
        return TOO_MANY
    world.deeds.append(deed)
    world.allowed = 0
    return len(world.deeds) - 1


def drop_deed(world, number):
    if not are_together(world):
        return NOT_TOGETHER
    if number >= len(world.deeds):
        return NONE_SUCH
    world.deeds.pop(number)
    world.allowed = 0
    return len(world.deeds)


def allow_deeds(world, chosen):
    if not are_together(world):
        return NOT_TOGETHER
    if not lies_below(chosen, len(world.deeds)):
        return NOT_AS_TOLD
    if not is_free(world.rule, chosen_of(world.deeds, chosen), world.facts):
        return NOT_LET
    before = world.allowed
    world.allowed = chosen
    return before


def set_state(world, state):
    if not are_together(world):
        return NOT_TOGETHER
    if not lies_below(state, world.facts):
        return NOT_AS_TOLD
    if not has(world.rule, state):
        return NOT_LET
    before = world.common
    make_common(world, state)
    return before


def tell_answer(world, state, things):
    if not lies_below(state, world.facts) or things > ALL_THINGS:
        return NOT_AS_TOLD
    before = world.told[state]
    world.told[state] = things
    return before
