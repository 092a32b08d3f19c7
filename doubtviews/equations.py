"""Equations whose unknowns may not be below 0."""


def solvable(equations):
    """Whether unknowns of 0 or more meet all equations.

    An equation is a list: the unknowns' factors, then what they come to, which is 0 or more.
    This is the simplex method's first phase: each equation has a gap at first, as all unknowns
    are 0, and unknowns are put in the gaps' place till no gap is left, or none can be lessened.
    The last row holds the sum of the equations that still have a gap.
    """
    if len(equations) == 0:
        return True
    rows = list(equations)
    rows.append(sum_of_rows(equations))
    # Gaps are numbered below 0, and so ahead of the unknowns: of like rows a gap's goes first.
    holders = [-1 - place for place in range(len(equations))]
    scale = 1
    while rows[-1][-1] > 0:
        column = first_above_zero(rows[-1])
        if column is None:
            return False
        place = tightest_row(rows, holders, column)
        factor = rows[place][column]
        rows = exchanged(rows, place, column, scale)
        holders[place] = column
        scale = factor
    return True


def sum_of_rows(rows):
    """One row: the sum of all."""
    total = []
    for column in range(len(rows[0])):
        total.append(sum([row[column] for row in rows]))
    return total


def first_above_zero(row):
    """The first unknown whose factor is above 0, or None.

    Always taking the first, here and of like rows below, keeps the exchanges from going in a ring.
    """
    for column in range(len(row) - 1):
        if row[column] > 0:
            return column
    return None


def tightest_row(rows, holders, column):
    """The equation that lets the column's unknown grow least; of like ones the one with the first holder.

    There is one: the last row is a sum of equations, and its factor is above 0.
    """
    best = None
    for place in range(len(holders)):
        if rows[place][column] > 0 and (best is None or is_tighter(rows, holders, column, place, best)):
            best = place
    return best


def is_tighter(rows, holders, column, place, other):
    """Whether the equation at place is met sooner than the other, as the column's unknown grows."""
    here = rows[place][-1] * rows[other][column]
    there = rows[other][-1] * rows[place][column]
    return here < there or (here == there and holders[place] < holders[other])


def exchanged(rows, place, column, scale):
    """The rows, with the column taken out of all but the one at place.

    All rows stand scale times as large as they are, and then as many times as the chosen
    factor is; so each quotient is a determinant of the first rows, and nothing is left over.
    """
    chosen_row = rows[place]
    factor = chosen_row[column]
    changed = []
    for other, row in enumerate(rows):
        if other == place:
            changed.append(row)
        else:
            lead = row[column]
            changed.append([(factor * here - lead * there) // scale for here, there in zip(row, chosen_row)])
    return changed
