"""All that stands at one time: facts, rule, deeds, what is allowed and told, and the copies."""

from noasking.rules import put_together


class World:
    """A world as it is right behind begin."""

    def __init__(self, facts, copies):
        self.facts = facts
        self.rule = (1 << (1 << facts)) - 1
        self.deeds = []
        self.allowed = 0
        self.told = [0] * (1 << facts)
        self.common = 0
        self.states = [0] * copies


def twin(world):
    """Another world that stands just so; a change to one does not reach the other."""
    other = World(world.facts, len(world.states))
    other.rule = world.rule
    other.deeds = list(world.deeds)
    other.allowed = world.allowed
    other.told = list(world.told)
    other.common = world.common
    other.states = list(world.states)
    return other


def straying(world):
    """The numbers, rising, of the copies that haven't the common state."""
    return [copy for copy, state in enumerate(world.states) if state != world.common]


def are_together(world):
    return straying(world) == []


def lies_ahead(world):
    return put_together(world.common, world.states)


def make_common(world, state):
    world.common = state
    world.states = [state] * len(world.states)
