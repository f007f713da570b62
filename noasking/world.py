"""All that stands at one time: facts, rule, deeds, what is allowed and told, and the copies."""

from noasking.deeds import chosen_of
from noasking.rules import come_together, may_come_to, put_together

# The set of the three things that may be told of a state.
ALL_THINGS = 7


class World:
    """A world as it is right behind begin."""

    def __init__(self, facts, copies):
        self.facts = facts
        self.rule = (1 << (1 << facts)) - 1
        self.deeds = []
        self.allowed = 0
        self.told = [0] * (1 << facts)
        self.common = 0
        self.states = [0] * copies


def twin(world):
    """Another world that stands just so; a change to one does not reach the other."""
    other = World(world.facts, len(world.states))
    other.rule = world.rule
    other.deeds = list(world.deeds)
    other.allowed = world.allowed
    other.told = list(world.told)
    other.common = world.common
    other.states = list(world.states)
    return other


def straying(world):
    """The numbers, rising, of the copies that haven't the common state."""
    return [copy for copy, state in enumerate(world.states) if state != world.common]


def are_together(world):
    return straying(world) == []


def lies_ahead(world):
    return put_together(world.common, world.states)


def reached_from(world, state):
    """The states, rising, to which a copy may come from this one by allowed deeds."""
    return may_come_to(world.rule, chosen_of(world.deeds, world.allowed), state)


def may_come_of(world, copy):
    """The states, rising, that may come, as this copy can know."""
    # Of the others a copy knows only where they set out, not what they have done since.
    others = [reached_from(world, world.common)] * (len(world.states) - 1)
    return come_together(world.common, [[world.states[copy]]] + others)


def make_common(world, state):
    world.common = state
    world.states = [state] * len(world.states)
