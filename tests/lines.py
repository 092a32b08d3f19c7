"""What the tests share: calls by name, put in a line and answered."""

from doubtviews.views import answers

NAMES = (
    "begin", "view", "unview", "table", "viewis", "world", "trust", "together", "conflicts", "fewest",
    "cheapest", "ways", "never", "always", "blame", "enough", "iftable", "iftrust", "kept", "cost",
)
LARGEST = 4294967295
KINDS = (0, 1, 2)


def line(calls):
    """The list that these calls are handed in as; each is a name, then its numbers."""
    flat = []
    for name, *numbers in calls:
        flat += [NAMES.index(name), len(numbers), *numbers, 0]
    return flat


def told(*calls):
    """The answer of each call, as a list."""
    given = answers(line(calls))
    assert isinstance(given, list) and all(isinstance(number, int) for number in given)
    assert not any(isinstance(number, bool) for number in given)
    split = []
    at = 0
    while at < len(given):
        split.append(given[at + 1:at + 1 + given[at]])
        assert len(split[-1]) == given[at] > 0
        at += 1 + given[at]
    assert len(split) == len(calls)
    return split


def last(*calls):
    """The answer of the last of these calls."""
    return told(*calls)[-1]


def with_views(questions, views):
    """The calls that begin and make views; each is its set of questions and its table."""
    calls = [("begin", questions)]
    for place, (asked, table) in enumerate(views):
        calls += [("view", asked), ("table", place, *table)]
    return calls


def rows_of(asked):
    """For each row of a view the answers that it stands for, as a set of questions."""
    return [part for part in range(asked + 1) if part & asked == part]


def table_of(whole, asked, times=1):
    """The table that a view has if each world was seen so often; whole is a list by world."""
    return [times * sum(often for world, often in enumerate(whole) if world & asked == row) for row in rows_of(asked)]


def numbers_from(seed):
    """Numbers that jump about, the same ones for the same seed."""
    while True:
        seed = (seed * 1103515245 + 12345) % 2147483648
        yield seed >> 12
