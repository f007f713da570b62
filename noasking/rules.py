"""What comes together of several copies, and whether the rule is kept by them."""

from noasking.bits import has
from noasking.deeds import is_ready, outcome


def put_together(common, states):
    """The common state with each fact changed that is changed in one of the states."""
    changed = 0
    for state in states:
        changed = changed | (state ^ common)
    return common ^ changed


def let_states(rule, facts):
    """The states, rising, that are let."""
    return [state for state in range(1 << facts) if has(rule, state)]


def can_be_done(rule, deed, state):
    return is_ready(deed, state) and has(rule, outcome(deed, state))


def may_come_to(rule, deeds, state):
    """The states, rising, to which a copy may come from this one by these deeds."""
    found = [state]
    at = 0
    while at < len(found):
        for deed in deeds:
            after = outcome(deed, found[at])
            if after not in found and can_be_done(rule, deed, found[at]):
                found.append(after)
        at = at + 1
    return sorted(found)


def joined(first, second):
    """Each of the first sets with each of the second, together."""
    found = {}
    for one in first:
        for other in second:
            found[one | other] = True
    return list(found)


def come_together(common, choices):
    """The states, rising, that may be put together if each copy has one of the states that are its choice."""
    changed = [0]
    for states in choices:
        # Only which facts were changed matters, so the copies can be joined one at a time.
        changed = joined(changed, [state ^ common for state in states])
    return sorted([common ^ change for change in changed])


def is_kept_from(rule, deeds, common, copies):
    reached = may_come_to(rule, deeds, common)
    return all([has(rule, state) for state in come_together(common, [reached] * copies)])


def first_broken(rule, deeds, facts, copies):
    """The first state that's let from which so many copies may break the rule; None if they keep it."""
    for common in let_states(rule, facts):
        if not is_kept_from(rule, deeds, common, copies):
            return common
    return None


def is_kept(rule, deeds, facts, copies):
    """Whether the rule is kept by so many copies with these deeds."""
    return first_broken(rule, deeds, facts, copies) is None


def is_closed(rule, facts):
    """Whether what's put together of any two states that are let, from a third one, is let."""
    let = let_states(rule, facts)
    for common in let:
        for state in come_together(common, [let, let]):
            if not has(rule, state):
                return False
    return True


def do_clash(rule, facts, first, second):
    """Whether two deeds, done at two copies that had one state, may bring about what isn't let."""
    for common in let_states(rule, facts):
        if can_be_done(rule, first, common) and can_be_done(rule, second, common):
            states = [outcome(first, common), outcome(second, common)]
            if not has(rule, put_together(common, states)):
                return True
    return False
