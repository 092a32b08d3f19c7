"""The calls that ask whether views can be together, and whom to doubt.

A kind that is handed on to them is one that there is.
"""

from doubtviews.changes import is_table, is_trust
from doubtviews.doubts import always_doubted, cheapest, conflicts, fewest, how_many_hold, is_enough, never_doubted
from doubtviews.doubts import others_of, trust_of, ways_out
from doubtviews.kinds import can_be_together
from doubtviews.numbering import members
from doubtviews.refusals import NO_VIEW, WRONG
from doubtviews.state import chosen, with_other


def is_set_of_views(state, number):
    """Whether a number tells a set of the views that there are."""
    return number < 1 << len(state.views)


def yes_or_no(holds):
    """The answer of a call that asks whether something holds."""
    return [1 if holds else 0]


def counted(found):
    """How many there are, then they."""
    return [len(found)] + found


def doubt_told(state, number):
    """A set to doubt, how many views it has, how much they're trusted."""
    return [number, len(members(number)), trust_of(state, number)]


def ask_together(state, kind, number):
    """Whether the views of a set can be together."""
    if not is_set_of_views(state, number):
        return [WRONG]
    return yes_or_no(can_be_together(kind, state.questions, chosen(state, number)))


def ask_conflicts(state, kind):
    """How many conflicts there are, then they."""
    return counted(conflicts(state, kind))


def ask_fewest(state, kind):
    """The fewest to doubt."""
    return doubt_told(state, fewest(state, kind))


def ask_cheapest(state, kind):
    """The cheapest to doubt."""
    return doubt_told(state, cheapest(state, kind))


def ask_ways(state, kind):
    """How many ways out there are, then they."""
    return counted(ways_out(state, kind))


def ask_never(state, kind):
    """How many views are in no conflict, then they."""
    return counted(never_doubted(state, kind))


def ask_always(state, kind):
    """How many views are in each way out, then they."""
    return counted(always_doubted(state, kind))


def ask_blame(state, kind, place):
    """In how many conflicts a view is."""
    if place >= len(state.views):
        return [NO_VIEW]
    return [how_many_hold(conflicts(state, kind), place)]


def ask_enough(state, kind, number):
    """Whether it's enough to leave out a set."""
    if not is_set_of_views(state, number):
        return [WRONG]
    return yes_or_no(is_enough(state, kind, number))


def ask_if_table(state, kind, place, row):
    """What the fewest to doubt would be, were this the view's table."""
    if place >= len(state.views):
        return [NO_VIEW]
    view = state.views[place]
    if not is_table(view, row):
        return [WRONG]
    return ask_fewest(with_other(state, place, row, view.trust), kind)


def ask_if_trust(state, kind, place, trust):
    """What the cheapest to doubt would be, were the view trusted so much."""
    if place >= len(state.views):
        return [NO_VIEW]
    if not is_trust(trust):
        return [WRONG]
    return ask_cheapest(with_other(state, place, state.views[place].table, trust), kind)


def ask_kept(state, kind):
    """How many views are left if the fewest to doubt are left out, then they."""
    return counted(members(others_of(state, fewest(state, kind))))


def ask_cost(state, number):
    """How much the views of a set are trusted, together."""
    if not is_set_of_views(state, number):
        return [WRONG]
    return [trust_of(state, number)]
