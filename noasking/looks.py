"""The looks at the copies: each answers a list of how the world stands, and changes nothing."""

from noasking.calls import AHEAD, CAN_ASK, CAN_DO, COPIES, DIFFER, MAY, REACH, SURE, TOLD
from noasking.doing import come_of_asking, come_of_doing
from noasking.refusals import NONE_SUCH
from noasking.world import ALL_THINGS, lies_ahead, may_come_of, reached_from, straying


def counted(found):
    return [len(found)] + found


def what_can_be_done(world, copy):
    return [number for number in range(len(world.deeds)) if come_of_doing(world, copy, number) >= 0]


def what_can_be_asked(world):
    return [number for number in range(len(world.deeds)) if come_of_asking(world, number) >= 0]


def what_is_sure(world, copy):
    things = ALL_THINGS
    for state in may_come_of(world, copy):
        things = things & world.told[state]
    return things


def what_may_be(world, copy):
    things = 0
    for state in may_come_of(world, copy):
        things = things | world.told[state]
    return things


def look_at_one(world, call, copy):
    """The looks that are told a copy."""
    if copy >= len(world.states):
        return [NONE_SUCH]
    if call == CAN_DO:
        return counted(what_can_be_done(world, copy))
    if call == REACH:
        return counted(reached_from(world, world.states[copy]))
    if call == TOLD:
        return [world.told[world.states[copy]]]
    if call == SURE:
        return [what_is_sure(world, copy)]
    if call == MAY:
        return [what_may_be(world, copy)]
    return counted(may_come_of(world, copy))


def look_at_all(world, call):
    """The looks that are told nothing."""
    if call == COPIES:
        return [len(world.states), world.common] + world.states
    if call == AHEAD:
        return [lies_ahead(world)]
    if call == DIFFER:
        return counted(straying(world))
    if call == CAN_ASK:
        return counted(what_can_be_asked(world))
    return [world.facts, len(world.states), world.rule, len(world.deeds), world.allowed]
