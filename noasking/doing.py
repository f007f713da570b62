"""The changes by which something is done: do, ask and gather.

Each of these changes the world it is given and answers a number; where that is below 0 nothing was changed.
"""

from noasking.bits import has
from noasking.deeds import is_ready, outcome
from noasking.refusals import NEED_NOT_SO, NONE_SUCH, NOT_ALLOWED, NOT_LET
from noasking.world import lies_ahead, make_common


def come_of(world, number, state):
    """The state that comes of a deed done at this one, or why it can't be done."""
    deed = world.deeds[number]
    if not is_ready(deed, state):
        return NEED_NOT_SO
    after = outcome(deed, state)
    if not has(world.rule, after):
        return NOT_LET
    return after


def come_of_doing(world, copy, number):
    """The state that do would answer, or why it would refuse; nothing is changed."""
    if copy >= len(world.states) or number >= len(world.deeds):
        return NONE_SUCH
    if not has(world.allowed, number):
        return NOT_ALLOWED
    return come_of(world, number, world.states[copy])


def come_of_asking(world, number):
    """The state that ask would answer, or why it would refuse; nothing is changed."""
    if number >= len(world.deeds):
        return NONE_SUCH
    return come_of(world, number, lies_ahead(world))


def do_deed(world, copy, number):
    after = come_of_doing(world, copy, number)
    if after >= 0:
        world.states[copy] = after
    return after


def ask_deed(world, number):
    after = come_of_asking(world, number)
    if after >= 0:
        make_common(world, after)
    return after


def gather(world):
    make_common(world, lies_ahead(world))
    return world.common
