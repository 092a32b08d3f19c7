"""Sets that are told as numbers, and how the rows of a view are numbered."""


def members(number):
    """The members of a set, rising."""
    found = []
    place = 0
    while number >> place > 0:
        if (number >> place) & 1 == 1:
            found.append(place)
        place += 1
    return found


def parts(number):
    """All sets within a set, rising, the empty one and itself among them.

    Of a view's questions, the part at place r holds those that row r answers 1:
    both count the questions in the same order.
    """
    return [part for part in range(number + 1) if part & number == part]


def shown_row(world, asked):
    """The row that a world shows in a view of the questions asked."""
    return parts(asked).index(world & asked)
