"""Deeds: what one needs, and what comes of it."""

from noasking.bits import has, lies_below, lies_in


class Deed:
    """Of the facts of need just those of be have to be so; those of on become so, those of off not so.

    A deed is never changed once it is made, so several worlds may hold the same one.
    """

    def __init__(self, need, be, on, off):
        self.need = need
        self.be = be
        self.on = on
        self.off = off


def is_sound(deed, facts):
    """Whether these four sets are a deed over so many facts."""
    named = deed.need | deed.be | deed.on | deed.off
    return lies_below(named, facts) and lies_in(deed.be, deed.need) and deed.on & deed.off == 0


def is_ready(deed, state):
    return state & deed.need == deed.be


def outcome(deed, state):
    return (state | deed.on) & ~deed.off


def chosen_of(deeds, chosen):
    """Those of the deeds whose numbers are in the chosen set."""
    return [deed for number, deed in enumerate(deeds) if has(chosen, number)]
