"""Conflicts, and which views to doubt."""

from doubtviews.kinds import can_be_together
from doubtviews.numbering import members
from doubtviews.state import chosen


def together_by_set(state, kind):
    """For each set of views, by its number, whether these can be together."""
    known = []
    for number in range(1 << len(state.views)):
        # What holds a set that can't be together can't be either: no need to look further.
        can = parts_can(known, number) and can_be_together(kind, state.questions, chosen(state, number))
        known.append(can)
    return known


def parts_can(known, number):
    """Whether a set's views can be together without any one of them."""
    return all([known[number - (1 << place)] for place in members(number)])


def conflicts(state, kind):
    """All conflicts, rising."""
    known = together_by_set(state, kind)
    return [number for number, can in enumerate(known) if not can and parts_can(known, number)]


def fewest(state, kind):
    """The fewest to doubt."""
    known = together_by_set(state, kind)
    everyone = len(known) - 1
    enough = [number for number in range(len(known)) if known[everyone - number]]
    return min(enough, key=lambda number: (len(members(number)), number))


def trust_of(state, number):
    """How much the views of a set are trusted, together."""
    return sum([view.trust for view in chosen(state, number)])
