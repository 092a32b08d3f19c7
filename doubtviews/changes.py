"""The calls that make, change and tell the views."""

from doubtviews.numbering import members, shown_row
from doubtviews.refusals import FULL, NO_VIEW, TAKEN, WRONG
from doubtviews.state import View

MOST_VIEWS = 6
MOST_SEEN = 100
MOST_TRUST = 100


def begin(state, questions):
    """So many questions, and no views."""
    if questions < 2 or questions > 4:
        return [WRONG]
    state.questions = questions
    state.views = []
    return [0]


def add_view(state, asked):
    """One more view, of these questions."""
    if asked >= 1 << state.questions or len(members(asked)) < 1 or len(members(asked)) > 3:
        return [WRONG]
    if asked in [view.asked for view in state.views]:
        return [TAKEN]
    if len(state.views) == MOST_VIEWS:
        return [FULL]
    state.views.append(View(asked))
    return [len(state.views) - 1]


def drop_view(state, place):
    """One view is taken out."""
    if place >= len(state.views):
        return [NO_VIEW]
    state.views.pop(place)
    return [len(state.views)]


def put_table(state, place, row):
    """A view has another table."""
    if place >= len(state.views):
        return [NO_VIEW]
    view = state.views[place]
    if not is_table(view, row):
        return [WRONG]
    view.table = list(row)
    return [0]


def is_table(view, row):
    """Whether a row of numbers can be this view's table."""
    return len(row) == len(view.table) and max(row) <= MOST_SEEN and sum(row) > 0


def tell_view(state, place):
    """A view's set of questions, then its table."""
    if place >= len(state.views):
        return [NO_VIEW]
    view = state.views[place]
    return [view.asked] + view.table


def see_world(state, world):
    """All views see a world once more."""
    if world >= 1 << state.questions:
        return [WRONG]
    for view in state.views:
        row = shown_row(world, view.asked)
        view.table[row] = min(view.table[row] + 1, MOST_SEEN)
    return [len(state.views)]


def put_trust(state, place, trust):
    """A view is trusted so much from now on."""
    if place >= len(state.views):
        return [NO_VIEW]
    if not is_trust(trust):
        return [WRONG]
    view = state.views[place]
    before = view.trust
    view.trust = trust
    return [before]


def is_trust(trust):
    """Whether a view can be trusted so much."""
    return 1 <= trust and trust <= MOST_TRUST
