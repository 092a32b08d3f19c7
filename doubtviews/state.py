"""What one line of calls is made on."""

from doubtviews.numbering import members, parts


class View:
    """The set of questions that it asks, its table, and how much it's trusted."""

    def __init__(self, asked):
        self.asked = asked
        self.table = [1 for part in parts(asked)]
        self.trust = 1


class State:
    """How many questions there are (0 ahead of a begin that's answered 0), and the views."""

    def __init__(self):
        self.questions = 0
        self.views = []


def with_other(state, place, table, trust):
    """A state of its own: as this one, but that the view at place has this table and is trusted so much."""
    view = View(state.views[place].asked)
    view.table = list(table)
    view.trust = trust
    other = State()
    other.questions = state.questions
    other.views = list(state.views)
    other.views[place] = view
    return other


def chosen(state, number):
    """The views of a set that is told as a number."""
    return [state.views[place] for place in members(number)]
