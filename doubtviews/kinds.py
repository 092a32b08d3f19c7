"""Whether views can be together, by each kind."""

from doubtviews.numbering import parts, shown_row
from doubtviews.wholes import has_whole


def can_be_together(kind, questions, views):
    """Whether these views can be together, by kind 0, 1 or 2."""
    if kind == 0:
        return some_world_fits(questions, views)
    if kind == 1:
        return any_two_agree(views)
    return has_whole(questions, views)


def some_world_fits(questions, views):
    """Whether some world fits all these views."""
    for world in range(1 << questions):
        if all([fits(world, view) for view in views]):
            return True
    return False


def fits(world, view):
    """Whether the row that the world shows in the view is seen."""
    return view.table[shown_row(world, view.asked)] > 0


def any_two_agree(views):
    """Whether any two of these views agree."""
    for place, one in enumerate(views):
        for other in views[place + 1:]:
            if not agree(one, other):
                return False
    return True


def agree(one, other):
    """Whether the margins for the questions that both have are the same."""
    both = one.asked & other.asked
    ours = margin(one, both)
    theirs = margin(other, both)
    for part in parts(both):
        if ours[part] * sum(other.table) != theirs[part] * sum(one.table):
            return False
    return True


def margin(view, some):
    """For each part of some of a view's questions how often just these were answered 1 among them."""
    often = {}
    for row, seen in zip(parts(view.asked), view.table):
        part = row & some
        often[part] = often.get(part, 0) + seen
    return often
