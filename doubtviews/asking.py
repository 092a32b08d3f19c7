"""The calls that ask whether views can be together, and whom to doubt."""

from doubtviews.doubts import conflicts, fewest, trust_of
from doubtviews.kinds import can_be_together
from doubtviews.numbering import members
from doubtviews.refusals import WRONG
from doubtviews.state import chosen

HIGHEST_KIND = 2


def ask_together(state, kind, number):
    """Whether the views of a set can be together."""
    if kind > HIGHEST_KIND or number >= 1 << len(state.views):
        return [WRONG]
    return [1 if can_be_together(kind, state.questions, chosen(state, number)) else 0]


def ask_conflicts(state, kind):
    """How many conflicts there are, then they."""
    if kind > HIGHEST_KIND:
        return [WRONG]
    found = conflicts(state, kind)
    return [len(found)] + found


def ask_fewest(state, kind):
    """The fewest to doubt, how many these are, how much they're trusted."""
    if kind > HIGHEST_KIND:
        return [WRONG]
    number = fewest(state, kind)
    return [number, len(members(number)), trust_of(state, number)]
