"""What comes together of several copies, and whether the rule is kept by them."""

from noasking.bits import has
from noasking.deeds import is_ready, outcome


def put_together(common, states):
    """The common state with each fact changed that is changed in one of the states."""
    changed = 0
    for state in states:
        changed = changed | (state ^ common)
    return common ^ changed


def can_be_done(rule, deed, state):
    return is_ready(deed, state) and has(rule, outcome(deed, state))


def may_come_to(rule, deeds, state):
    """The states, rising, to which a copy may come from this one by these deeds."""
    found = [state]
    at = 0
    while at < len(found):
        for deed in deeds:
            after = outcome(deed, found[at])
            if can_be_done(rule, deed, found[at]) and after not in found:
                found.append(after)
        at = at + 1
    return sorted(found)


def all_put_together(common, first, second):
    """What is put together of each of the first states with each of the second, rising."""
    found = {}
    for one in first:
        for other in second:
            found[put_together(common, [one, other])] = True
    return sorted(found)


def come_together(rule, deeds, common, copies):
    """The states, rising, that so many copies may bring about from the common one."""
    single = may_come_to(rule, deeds, common)
    found = [common]
    for turn in range(copies):
        # Only which facts were changed matters, so the copies can be joined one at a time.
        found = all_put_together(common, found, single)
    return found


def is_kept(rule, deeds, facts, copies):
    """Whether the rule is kept by so many copies with these deeds."""
    for common in range(1 << facts):
        if has(rule, common):
            for state in come_together(rule, deeds, common, copies):
                if not has(rule, state):
                    return False
    return True


def is_free(rule, deeds, facts):
    """Whether these deeds, with no others, keep the rule by as many copies as there are facts."""
    return is_kept(rule, deeds, facts, facts)
