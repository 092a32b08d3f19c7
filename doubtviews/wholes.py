"""Whether there's a whole that has the tables of some views, in whole numbers alone."""

from doubtviews.equations import solvable
from doubtviews.numbering import parts


def has_whole(questions, views):
    """Whether some whole has the tables of all these views."""
    shares = shares_of_parts(views)
    if shares is None:
        return False
    equations = []
    for part, share in shares.items():
        equation = [1 if world & part == part else 0 for world in range(1 << questions)]
        equation.append(share)
        equations.append(equation)
    return solvable(equations)


def shares_of_parts(views):
    """For each set of questions within a view how likely it is that all of them are answered 1.

    These say as much as the tables do: what a row is less than that comes of the sets that
    hold more. But they stand once each, where rows of several views would say them again.
    All are counted in parts of the product of the tables' sums. None if two views differ.
    """
    unit = 1
    for view in views:
        unit = unit * sum(view.table)
    shares = {}
    for view in views:
        weight = unit // sum(view.table)
        rows = parts(view.asked)
        for part in rows:
            share = weight * sum([often for row, often in zip(rows, view.table) if row & part == part])
            if shares.get(part, share) != share:
                return None
            shares[part] = share
    return shares
