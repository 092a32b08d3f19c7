"""What the tests share: calls by name, put in a line and answered, and some lines."""

from doubtviews.views import answers

NAMES = (
    "begin", "view", "unview", "table", "viewis", "world", "trust", "together", "conflicts", "fewest",
    "cheapest", "ways", "never", "always", "blame", "enough", "iftable", "iftrust", "kept", "cost",
)
LARGEST = 4294967295
KINDS = (0, 1, 2)


def line(calls):
    """The list that these calls are handed in as; each is a name, then its numbers."""
    flat = []
    for name, *numbers in calls:
        flat += [NAMES.index(name), len(numbers), *numbers, 0]
    return flat


def told(*calls):
    """The answer of each call, as a list."""
    given = answers(line(calls))
    assert isinstance(given, list) and all(isinstance(number, int) for number in given)
    assert not any(isinstance(number, bool) for number in given)
    split = []
    at = 0
    while at < len(given):
        split.append(given[at + 1:at + 1 + given[at]])
        assert len(split[-1]) == given[at] > 0
        at += 1 + given[at]
    assert len(split) == len(calls)
    return split


def last(*calls):
    """The answer of the last of these calls."""
    return told(*calls)[-1]


def with_views(questions, views):
    """The calls that begin and make views; each is its set of questions and its table."""
    calls = [("begin", questions)]
    for place, (asked, table) in enumerate(views):
        calls += [("view", asked), ("table", place, *table)]
    return calls


def rows_of(asked):
    """For each row of a view the answers that it stands for, as a set of questions."""
    return [part for part in range(asked + 1) if part & asked == part]


def table_of(whole, asked, times=1):
    """The table that a view has if each world was seen so often; whole is a list by world."""
    return [times * sum(often for world, often in enumerate(whole) if world & asked == row) for row in rows_of(asked)]


def numbers_from(seed):
    """Numbers that jump about, the same ones for the same seed."""
    while True:
        seed = (seed * 1103515245 + 12345) % 2147483648
        yield seed >> 12


def table_from_whole(numbers, whole, asked):
    """A table that comes of a whole, or, one time in three, not quite."""
    table = table_of(whole, asked)
    return table[1:] + table[:1] if next(numbers) % 3 == 0 else table


def table_of_few(numbers, whole, asked):
    """A table in which one row was seen, or two were."""
    table = [0] * len(rows_of(asked))
    for _ in range(1 + next(numbers) % 2):
        table[next(numbers) % len(table)] += 1 + next(numbers) % 2
    return table


def table_of_even(numbers, whole, asked):
    """A table whose rows with an even number of answers 1 are as likely as one another; the others, too."""
    often = ((0, 1), (1, 0), (0, 1), (1, 1), (1, 3), (5, 1))[next(numbers) % 6]
    return [often[bin(row).count("1") % 2] for row in rows_of(asked)]


def drawn_whole(numbers, questions):
    """How often each world was seen, many of them never."""
    whole = [max(0, next(numbers) % 7 - 3) for _ in range(2 ** questions)]
    whole[next(numbers) % len(whole)] += 1
    return whole


def drawn_views(numbers, questions):
    """Views as with_views takes them, up to six, whose tables have something to do with one another."""
    whole = drawn_whole(numbers, questions)
    draw = (table_from_whole, table_of_few, table_of_even)[next(numbers) % 3]
    views = {}
    for _ in range(8):
        asked = 1 + next(numbers) % (2 ** questions - 1)
        if bin(asked).count("1") <= 3 and len(views) < 6:
            views[asked] = draw(numbers, whole, asked)
    return list(views.items())


# Any two of the questions are answered otherwise, says each view.
RING = with_views(3, [(3, (0, 1, 1, 0)), (5, (0, 1, 1, 0)), (6, (0, 1, 1, 0))])
# As RING, but each world fits.
SOFT_RING = with_views(3, [(3, (10, 45, 45, 10)), (5, (10, 45, 45, 10)), (6, (10, 45, 45, 10))])
# Views 0 and 1 don't agree, view 2 agrees with both; each world fits.
TWO_AND_ONE = with_views(3, [(1, (1, 2)), (3, (1, 1, 1, 1)), (6, (3, 3, 3, 3))])
# Of three questions an even number is answered 1, say views 0 to 2, but view 3 says an odd one. So any two
# of these views tell how the two questions stand that only one of them has, and any three tell one answer.
# Views 4 and 5 say that two questions have nothing to do with one another.
EVEN, ODD = (1, 0, 0, 1, 0, 1, 1, 0), (0, 1, 1, 0, 1, 0, 0, 1)
EVEN_AND_ODD = with_views(4, [(7, EVEN), (11, EVEN), (13, EVEN), (14, ODD), (3, (1, 1, 1, 1)), (12, (2, 2, 2, 2))])
# All six views tell of question 0 otherwise, but that all answers are seen.
ALL_DIFFER = with_views(4, [
    (1, (1, 2)), (3, (1, 1, 1, 1)), (5, (3, 1, 3, 1)), (9, (4, 1, 4, 1)),
    (7, (5, 1, 5, 1, 5, 1, 5, 1)), (11, (6, 1, 6, 1, 6, 1, 6, 1)),
])
# No row that views 0 and 1 have seen is seen by view 2.
LAST_IS_WRONG = with_views(3, [(3, (0, 1, 0, 1)), (5, (0, 2, 0, 2)), (1, (7, 0))])
# Views 1, 2 and 3 are a ring, view 0 quarrels with view 3 of question 3, view 4 quarrels with none.
PAIR_AND_RING = with_views(4, [
    (8, (1, 0)), (3, (0, 1, 1, 0)), (5, (0, 1, 1, 0)), (14, (0, 0, 0, 0, 0, 1, 1, 0)), (1, (1, 1)),
])
