"""Lines of sixty calls with all twenty calls in them, against the document's words written down anew."""

import unittest
from fractions import Fraction
from itertools import combinations

from lines import KINDS, LARGEST, NAMES, drawn_views, line, numbers_from, rows_of, told, with_views
from doubtviews.views import answers

wholes_known = {}


def has_whole(questions, views):
    """Kind 2 is asked of the program; test_wholes.py tells whether it's right."""
    key = (questions, tuple((asked, tuple(table)) for asked, table in views))
    if key not in wholes_known:
        asking = ("together", 2, 2 ** len(views) - 1)
        wholes_known[key] = told(*with_views(questions, views), asking)[-1] == [1]
    return wholes_known[key]


def some_world_fits(questions, views):
    return any(all(table[rows_of(asked).index(world & asked)] for asked, table in views)
               for world in range(2 ** questions))


def margin(view, both):
    asked, table = view
    return [Fraction(sum(seen for row, seen in zip(rows_of(asked), table) if row & both == part), sum(table))
            for part in rows_of(both)]


def any_two_agree(questions, views):
    return all(margin(one, one[0] & other[0]) == margin(other, one[0] & other[0])
               for one, other in combinations(views, 2))


class Model:
    """What each call answers, written as the document says it and no quicker."""

    def __init__(self):
        self.questions = 0
        self.views = []

    def answer(self, name, numbers):
        if name == "begin":
            return self.begin(*numbers)
        if self.questions == 0:
            return [-11]
        return getattr(self, name)(*numbers)

    def begin(self, n):
        if n not in (2, 3, 4):
            return [-22]
        self.questions = n
        self.views = []
        return [0]

    def view(self, s):
        if not 0 < s < 2 ** self.questions or bin(s).count("1") > 3:
            return [-22]
        if any(view["set"] == s for view in self.views):
            return [-17]
        if len(self.views) == 6:
            return [-28]
        self.views.append({"set": s, "table": [1] * len(rows_of(s)), "trust": 1})
        return [len(self.views) - 1]

    def unview(self, i):
        if i >= len(self.views):
            return [-2]
        self.views = self.views[:i] + self.views[i + 1:]
        return [len(self.views)]

    def wrong_table(self, i, row):
        return len(row) != len(self.views[i]["table"]) or any(seen > 100 for seen in row) or not any(row)

    def table(self, i, *row):
        if i >= len(self.views):
            return [-2]
        if self.wrong_table(i, row):
            return [-22]
        self.views[i]["table"] = list(row)
        return [0]

    def viewis(self, i):
        return [self.views[i]["set"]] + self.views[i]["table"] if i < len(self.views) else [-2]

    def world(self, x):
        if x >= 2 ** self.questions:
            return [-22]
        for view in self.views:
            row = rows_of(view["set"]).index(x & view["set"])
            view["table"][row] = min(100, view["table"][row] + 1)
        return [len(self.views)]

    def trust(self, i, t):
        if i >= len(self.views):
            return [-2]
        if not 1 <= t <= 100:
            return [-22]
        was = self.views[i]["trust"]
        self.views[i]["trust"] = t
        return [was]

    def sets(self):
        return range(2 ** len(self.views))

    def within(self, s):
        return [i for i in range(len(self.views)) if s >> i & 1]

    def can(self, k, s):
        views = [(self.views[i]["set"], self.views[i]["table"]) for i in self.within(s)]
        return (some_world_fits, any_two_agree, has_whole)[k](self.questions, views)

    def can_without(self, k, s):
        return self.can(k, len(self.sets()) - 1 - s)

    def all_conflicts(self, k):
        return [s for s in self.sets()
                if not self.can(k, s) and all(self.can(k, s - 2 ** i) for i in self.within(s))]

    def all_ways(self, k):
        return [s for s in self.sets()
                if self.can_without(k, s) and not any(self.can_without(k, s - 2 ** i) for i in self.within(s))]

    def told(self, s):
        return [s, len(self.within(s)), sum(self.views[i]["trust"] for i in self.within(s))]

    def together(self, k, s):
        return [-22] if k > 2 or s not in self.sets() else [int(self.can(k, s))]

    def enough(self, k, s):
        return [-22] if k > 2 or s not in self.sets() else [int(self.can_without(k, s))]

    def counted(self, k, found):
        return [-22] if k > 2 else [len(found(k))] + found(k)

    def conflicts(self, k):
        return self.counted(k, self.all_conflicts)

    def ways(self, k):
        return self.counted(k, self.all_ways)

    def never(self, k):
        return self.counted(k, lambda k: [i for i in range(len(self.views)) if self.blame(k, i) == [0]])

    def always(self, k):
        return self.counted(k, lambda k: [i for i in range(len(self.views))
                                          if all(s >> i & 1 for s in self.all_ways(k))])

    def blame(self, k, i):
        if k > 2:
            return [-22]
        if i >= len(self.views):
            return [-2]
        return [sum(s >> i & 1 for s in self.all_conflicts(k))]

    def fewest(self, k):
        if k > 2:
            return [-22]
        return min((self.told(s) for s in self.sets() if self.can_without(k, s)), key=lambda told: (told[1], told[0]))

    def cheapest(self, k):
        if k > 2:
            return [-22]
        return min((self.told(s) for s in self.sets() if self.can_without(k, s)),
                   key=lambda told: (told[2], told[1], told[0]))

    def kept(self, k):
        return self.counted(k, lambda k: [i for i in range(len(self.views)) if i not in self.within(self.fewest(k)[0])])

    def cost(self, s):
        return self.told(s)[2:] if s in self.sets() else [-22]

    def copy(self):
        other = Model()
        other.questions = self.questions
        other.views = [dict(view) for view in self.views]
        return other

    def iftable(self, k, i, *row):
        if k > 2:
            return [-22]
        other = self.copy()
        refused = other.table(i, *row)
        return refused if refused != [0] else other.fewest(k)

    def iftrust(self, k, i, t):
        if k > 2:
            return [-22]
        other = self.copy()
        refused = other.trust(i, t)
        return refused if refused[0] < 0 else other.cheapest(k)


SHAPES = {"begin": "n", "view": "q", "unview": "i", "table": "ir", "viewis": "i", "world": "x", "trust": "it",
          "together": "ks", "conflicts": "k", "fewest": "k", "cheapest": "k", "ways": "k", "never": "k", "always": "k",
          "blame": "ki", "enough": "ks", "iftable": "kir", "iftrust": "kit", "kept": "k", "cost": "s"}
LIMITS = {"n": 6, "q": 16, "i": 6, "x": 16, "t": 102, "k": 3, "s": 64}


def drawn_row(numbers, views, numbers_so_far):
    """A row for the view that was drawn ahead of it; one in eight of another length, one in eight too large or 0."""
    place = numbers_so_far[-1]
    many = len(rows_of(views[place][0])) if place < len(views) else 4
    turn = next(numbers) % 8
    row = [(0, 0, 0, 1, 2, 50, 0, 100)[next(numbers) % 8] for _ in range(next(numbers) % 11 if turn == 0 else many)]
    if turn == 1 and row:
        row[next(numbers) % len(row)] = (101, LARGEST, 4294967195, 1000)[next(numbers) % 4]
    return [0] * len(row) if turn == 2 else row


def drawn_call(numbers, name, questions, views):
    """A call with numbers that are mostly right, one time in twelve just beside or far off."""
    drawn = []
    for shape in SHAPES[name]:
        if shape == "r":
            drawn += drawn_row(numbers, views, drawn)
        elif next(numbers) % 12 == 0:
            drawn.append((LIMITS[shape], LARGEST, LARGEST - next(numbers) % 9, 2 ** (next(numbers) % 32))
                         [next(numbers) % 4])
        else:
            limit = {"i": len(views), "s": 2 ** len(views), "x": 2 ** questions}.get(shape, LIMITS[shape])
            drawn.append(next(numbers) % max(limit, 1))
    return (name, *drawn)


def drawn_line(numbers):
    """Sixty calls with all twenty in them: views are made, then asked and changed in a drawn order."""
    questions = 2 + next(numbers) % 3
    views = drawn_views(numbers, questions)
    calls = with_views(questions, views)
    if next(numbers) % 4 == 0:
        calls.insert(0, drawn_call(numbers, NAMES[1 + next(numbers) % 19], questions, views))
    names = list(NAMES[1:])
    while len(calls) + len(names) < 59:
        names.append(NAMES[6 + next(numbers) % 14])
    for place in range(len(names)):
        other = place + next(numbers) % (len(names) - place)
        names[place], names[other] = names[other], names[place]
    # A begin that is heeded takes the views away, so it stands late.
    names.insert(len(names) - next(numbers) % 8, "begin")
    return calls + [drawn_call(numbers, name, questions, views) for name in names]


class Drawn(unittest.TestCase):
    def test_as_the_document_says(self):
        numbers = numbers_from(7)
        for turn in range(60):
            calls = drawn_line(numbers)
            self.assertEqual((len(calls), {call[0] for call in calls}), (60, set(NAMES)))
            self.assertTrue(len(line(calls)) <= 1000)
            model = Model()
            for call, answer in zip(calls, told(*calls)):
                self.assertEqual(answer, model.answer(call[0], call[1:]), (turn, call, model.views))

    def test_a_second_time_the_same_and_what_is_handed_in_stays(self):
        numbers = numbers_from(8)
        for _ in range(20):
            flat = line(drawn_line(numbers))
            before = list(flat)
            first = answers(flat)
            self.assertEqual(flat, before)
            self.assertEqual(answers(flat), first)
            self.assertEqual(flat, before)

    def test_what_only_asks_changes_nothing(self):
        numbers = numbers_from(9)
        changing = ("begin", "view", "unview", "table", "world", "trust")
        for _ in range(20):
            calls = drawn_line(numbers)
            rest = [call for call in calls if call[0] in changing]
            kept = [answer for call, answer in zip(calls, told(*calls)) if call[0] in changing]
            self.assertEqual(told(*rest), kept)

    def test_each_kind_of_answer_is_drawn(self):
        """The lines would tell nothing of a call that is always refused, or of conflicts that are never there."""
        numbers = numbers_from(7)
        seen = {}
        for _ in range(60):
            calls = drawn_line(numbers)
            for call, answer in zip(calls, told(*calls)):
                seen.setdefault(call[0], []).append(answer)
                if call[0] in ("conflicts", "ways", "cheapest", "iftable") and call[1] < 3 and answer[0] > 1:
                    seen.setdefault((call[0], call[1]), []).append(answer)
        refusals = {"begin": [-22], "view": [-22, -17], "unview": [-2], "table": [-2, -22], "viewis": [-2],
                    "world": [-22], "trust": [-2, -22], "blame": [-22, -2], "iftable": [-22, -2],
                    "iftrust": [-22, -2]}
        for name in NAMES:
            for refusal in refusals.get(name, [-22]):
                self.assertIn([refusal], seen[name], name)
            self.assertTrue(sum(answer[0] >= 0 for answer in seen[name]) > 20, name)
        for name in ("conflicts", "ways", "cheapest", "iftable"):
            for kind in KINDS:
                self.assertTrue(len(seen[(name, kind)]) > 1, (name, kind))


if __name__ == "__main__":
    unittest.main()
