"""Conflicts, ways out, and which views to doubt."""

from doubtviews.kinds import can_be_together
from doubtviews.numbering import members
from doubtviews.state import chosen


def together_by_set(state, kind):
    """For each set of views, by its number, whether these can be together."""
    known = []
    for number in range(1 << len(state.views)):
        # What holds a set that can't be together can't be either: no need to look further.
        can = parts_can(known, number) and can_be_together(kind, state.questions, chosen(state, number))
        known.append(can)
    return known


def parts_can(known, number):
    """Whether a set's views can be together without any one of them."""
    return all([known[number - (1 << place)] for place in members(number)])


def conflicts(state, kind):
    """All conflicts, rising."""
    known = together_by_set(state, kind)
    return [number for number, can in enumerate(known) if not can and parts_can(known, number)]


def others_of(state, number):
    """The set of all views that aren't in a set."""
    return (1 << len(state.views)) - 1 - number


def is_enough(state, kind, number):
    """Whether it's enough to leave out a set."""
    return can_be_together(kind, state.questions, chosen(state, others_of(state, number)))


def enough_sets(state, kind):
    """All sets that it's enough to leave out, rising."""
    known = together_by_set(state, kind)
    return [number for number in range(len(known)) if known[others_of(state, number)]]


def ways_out(state, kind):
    """All ways out, rising."""
    enough = enough_sets(state, kind)
    return [number for number in enough if not any([number - (1 << place) in enough for place in members(number)])]


def fewest(state, kind):
    """The fewest to doubt."""
    return min(enough_sets(state, kind), key=lambda number: (len(members(number)), number))


def cheapest(state, kind):
    """The cheapest to doubt."""
    return min(enough_sets(state, kind), key=lambda number: (trust_of(state, number), len(members(number)), number))


def trust_of(state, number):
    """How much the views of a set are trusted, together."""
    return sum([view.trust for view in chosen(state, number)])


def how_many_hold(sets, place):
    """In how many of these sets a view is."""
    return len([number for number in sets if (number >> place) & 1 == 1])


def never_doubted(state, kind):
    """The views that are in no conflict, rising."""
    quarrels = conflicts(state, kind)
    return [place for place in range(len(state.views)) if how_many_hold(quarrels, place) == 0]


def always_doubted(state, kind):
    """The views that are in each way out, rising."""
    outs = ways_out(state, kind)
    return [place for place in range(len(state.views)) if how_many_hold(outs, place) == len(outs)]
