"""Cheapest, kept, cost, iftable and iftrust."""

import unittest

from lines import ALL_DIFFER, EVEN_AND_ODD, KINDS, LARGEST, LAST_IS_WRONG, PAIR_AND_RING, RING, SOFT_RING
from lines import TWO_AND_ONE, last, rows_of, told, with_views

ALL_CAN = with_views(3, [(3, (1, 1, 1, 1)), (6, (2, 2, 2, 2))])
LOOSE = (RING, SOFT_RING, TWO_AND_ONE, LAST_IS_WRONG, PAIR_AND_RING, EVEN_AND_ODD, ALL_DIFFER)


def trusted(calls, *trusts):
    """The calls, and view by view so much trust."""
    return calls + [("trust", place, trust) for place, trust in enumerate(trusts)]


def asked(calls, name):
    """What this call answers, by each kind."""
    return [last(*calls, (name, kind)) for kind in KINDS]


def views_of(calls):
    """The set and the trust of each view that these calls make."""
    sets = [numbers[0] for name, *numbers in calls if name == "view"]
    trusts = [1] * len(sets)
    for name, *numbers in calls:
        if name == "trust":
            trusts[numbers[0]] = numbers[1]
    return list(zip(sets, trusts))


class Refusals(unittest.TestCase):
    def test_a_kind_above_two(self):
        for kind in (3, 4, LARGEST):
            for call in (("cheapest", kind), ("kept", kind), ("iftable", kind, 0, 1, 1, 1, 1), ("iftable", kind, 0, 1),
                         ("iftable", kind, 0), ("iftable", kind, 3, 1, 1, 1, 1), ("iftable", kind, LARGEST),
                         ("iftrust", kind, 0, 1), ("iftrust", kind, 0, 0), ("iftrust", kind, 3, 1),
                         ("iftrust", kind, LARGEST, LARGEST)):
                self.assertEqual(told(*RING, call, ("cheapest", 0))[-2:], [[-22], [1, 1, 1]], call)

    def test_no_set_of_views(self):
        for number, expected in ((7, [3]), (8, [-22]), (9, [-22]), (LARGEST, [-22])):
            self.assertEqual(last(*RING, ("cost", number)), expected)

    def test_no_such_view_comes_ahead_of_the_row(self):
        for kind in KINDS:
            for place in (3, 4, LARGEST):
                for row in ((), (1,), (1, 1, 1, 1), (0, 0, 0, 0), (101, 1, 1, 1), (LARGEST,) * 8):
                    self.assertEqual(last(*RING, ("iftable", kind, place, *row)), [-2])

    def test_no_such_view_comes_ahead_of_the_trust(self):
        for kind in KINDS:
            for place in (3, 4, LARGEST):
                for trust in (0, 1, 100, 101, LARGEST):
                    self.assertEqual(last(*RING, ("iftrust", kind, place, trust)), [-2])

    def test_how_many_numbers_the_row_has(self):
        for asked_questions, many in ((2, 2), (6, 4), (14, 8)):
            for given in range(11):
                calls = (("begin", 4), ("view", asked_questions), ("iftable", given % 3, 0, *[3] * given))
                self.assertEqual(last(*calls), [0, 0, 0] if given == many else [-22])

    def test_how_large_the_row_is(self):
        for row, good in (((100, 100), True), ((100, 0), True), ((0, 100), True), ((0, 0), False), ((101, 1), False),
                          ((1, 101), False), ((0, LARGEST), False), ((LARGEST, 0), False), ((0, 1), True)):
            for kind in KINDS:
                self.assertEqual(last(("begin", 2), ("view", 1), ("iftable", kind, 0, *row)),
                                 [0, 0, 0] if good else [-22])

    def test_how_much_trust(self):
        for trust, good in ((0, False), (1, True), (2, True), (99, True), (100, True), (101, False), (LARGEST, False)):
            for kind in (0, 2):
                self.assertEqual(last(*RING, ("iftrust", kind, 0, trust)),
                                 ([1, 1, 1] if trust == 1 else [2, 1, 1]) if good else [-22])


class NoViews(unittest.TestCase):
    def test_there_is_nothing_to_leave_out(self):
        for kind in KINDS:
            calls = (("begin", 4), ("cheapest", kind), ("kept", kind), ("cost", 0), ("cost", 1),
                     ("iftable", kind, 0, 1, 1), ("iftrust", kind, 0, 1))
            self.assertEqual(told(*calls), [[0], [0, 0, 0], [0], [0], [-22], [-2], [-2]])


class Cheapest(unittest.TestCase):
    def test_all_can_be_together(self):
        self.assertEqual(asked(trusted(ALL_CAN, 1, 100), "cheapest"), [[0, 0, 0]] * 3)

    def test_the_rings(self):
        self.assertEqual(asked(trusted(RING, 5, 4, 3), "cheapest"), [[4, 1, 3], [0, 0, 0], [4, 1, 3]])
        self.assertEqual(asked(trusted(SOFT_RING, 4, 3, 5), "cheapest"), [[0, 0, 0], [0, 0, 0], [2, 1, 3]])

    def test_two_and_one(self):
        # The third one is trusted least, but to leave it out isn't enough.
        self.assertEqual(asked(trusted(TWO_AND_ONE, 9, 8, 1), "cheapest"), [[0, 0, 0], [2, 1, 8], [2, 1, 8]])

    def test_a_view_that_is_trusted_more_than_all_others(self):
        calls = trusted(LAST_IS_WRONG, 40, 50, 100)
        self.assertEqual(asked(calls, "cheapest"), [[3, 2, 90]] * 3)
        self.assertEqual(asked(calls, "fewest"), [[4, 1, 100]] * 3)

    def test_the_two_quarrels_in_turn(self):
        for trusts, expected in (((1, 1, 3), [3, 2, 2]), ((1, 2, 4), [3, 2, 3]), ((1, 2, 2), [4, 1, 2]),
                                 ((49, 50, 100), [3, 2, 99]), ((51, 50, 100), [4, 1, 100])):
            self.assertEqual(asked(trusted(LAST_IS_WRONG, *trusts), "cheapest"), [expected] * 3)

    def test_of_like_ones_the_fewest_views(self):
        self.assertEqual(asked(trusted(LAST_IS_WRONG, 1, 1, 2), "cheapest"), [[4, 1, 2]] * 3)
        self.assertEqual(asked(trusted(LAST_IS_WRONG, 60, 40, 100), "cheapest"), [[4, 1, 100]] * 3)
        self.assertEqual(asked(trusted(PAIR_AND_RING, 1, 1, 1, 2), "cheapest"), [[8, 1, 2], [1, 1, 1], [8, 1, 2]])

    def test_of_like_ones_the_lesser_number(self):
        self.assertEqual(asked(RING, "cheapest"), [[1, 1, 1], [0, 0, 0], [1, 1, 1]])
        self.assertEqual(asked(trusted(RING, 7, 6, 6), "cheapest"), [[2, 1, 6], [0, 0, 0], [2, 1, 6]])
        self.assertEqual(asked(trusted(PAIR_AND_RING, 1, 1, 1, 3), "cheapest"), [[3, 2, 2], [1, 1, 1], [3, 2, 2]])
        self.assertEqual(asked(trusted(PAIR_AND_RING, 3, 3, 3, 3), "cheapest"), [[8, 1, 3], [1, 1, 3], [8, 1, 3]])

    def test_six_views(self):
        # The ways out are 5, 6, 9, 10, 19 and 44.
        for trusts, expected in (((1, 1, 1, 1, 1, 1), [5, 2, 2]), ((9, 8, 7, 6, 5, 4), [10, 2, 14]),
                                 ((1, 2, 9, 9, 3, 9), [19, 3, 6]), ((9, 9, 2, 3, 9, 4), [44, 3, 9]),
                                 ((3, 3, 6, 6, 3, 9), [5, 2, 9]), ((3, 3, 6, 7, 2, 9), [19, 3, 8]),
                                 ((5, 2, 5, 5, 9, 9), [6, 2, 7])):
            self.assertEqual(asked(trusted(EVEN_AND_ODD, *trusts), "cheapest"), [[0, 0, 0], [0, 0, 0], expected])

    def test_all_but_the_one_that_is_trusted_most(self):
        seen = asked(trusted(ALL_DIFFER, 95, 96, 100, 97, 98, 99), "cheapest")
        self.assertEqual(seen, [[0, 0, 0], [59, 5, 485], [59, 5, 485]])


class Kept(unittest.TestCase):
    def test_all_can_be_together(self):
        self.assertEqual(asked(ALL_CAN, "kept"), [[2, 0, 1]] * 3)

    def test_the_rings(self):
        self.assertEqual(asked(RING, "kept"), [[2, 1, 2], [3, 0, 1, 2], [2, 1, 2]])
        self.assertEqual(asked(SOFT_RING, "kept"), [[3, 0, 1, 2], [3, 0, 1, 2], [2, 1, 2]])

    def test_two_and_one(self):
        self.assertEqual(asked(TWO_AND_ONE, "kept"), [[3, 0, 1, 2], [2, 1, 2], [2, 1, 2]])

    def test_it_is_not_of_the_cheapest(self):
        self.assertEqual(asked(trusted(LAST_IS_WRONG, 1, 1, 100), "kept"), [[2, 0, 1]] * 3)
        self.assertEqual(asked(trusted(PAIR_AND_RING, 1, 1, 1, 100), "kept"),
                         [[4, 0, 1, 2, 4], [4, 1, 2, 3, 4], [4, 0, 1, 2, 4]])

    def test_six_views(self):
        self.assertEqual(asked(EVEN_AND_ODD, "kept"), [[6, 0, 1, 2, 3, 4, 5]] * 2 + [[4, 1, 3, 4, 5]])
        self.assertEqual(asked(ALL_DIFFER, "kept"), [[6, 0, 1, 2, 3, 4, 5], [1, 5], [1, 5]])


class Cost(unittest.TestCase):
    def test_each_set(self):
        trusts = (1, 2, 4, 8, 16, 32)
        calls = trusted(EVEN_AND_ODD, *trusts)
        for number in range(64):
            self.assertEqual(last(*calls, ("cost", number)), [number])
        self.assertEqual(last(*calls, ("cost", 64)), [-22])

    def test_it_follows_what_is_changed(self):
        calls = trusted(RING, 10, 20, 100) + [("cost", 7), ("trust", 1, 100), ("cost", 6), ("unview", 0), ("cost", 3),
                                              ("cost", 4), ("view", 1), ("cost", 4), ("begin", 2), ("cost", 0)]
        self.assertEqual(told(*calls)[-10:], [[130], [20], [200], [2], [200], [-22], [2], [1], [0], [0]])


class IfTable(unittest.TestCase):
    def test_no_quarrel_were_that_the_table(self):
        self.assertEqual([last(*RING, ("iftable", kind, 0, 1, 0, 0, 1)) for kind in KINDS], [[0, 0, 0]] * 3)

    def test_a_quarrel_were_that_the_table(self):
        calls = trusted(ALL_CAN, 30, 20)
        self.assertEqual([last(*calls, ("iftable", kind, 1, 2, 2, 2, 3)) for kind in KINDS],
                         [[0, 0, 0], [1, 1, 30], [1, 1, 30]])
        self.assertEqual([last(*calls, ("iftable", kind, 0, 1, 1, 0, 0)) for kind in KINDS],
                         [[0, 0, 0], [1, 1, 30], [1, 1, 30]])

    def test_trust_is_told_and_does_not_choose(self):
        calls = trusted(RING, 100, 2, 3)
        self.assertEqual([last(*calls, ("iftable", kind, 1, 0, 9, 9, 0)) for kind in KINDS],
                         [[1, 1, 100], [0, 0, 0], [1, 1, 100]])

    def test_it_is_what_fewest_tells_behind_table(self):
        for calls in LOOSE:
            calls = trusted(calls, 11, 22, 33)
            for place, (questions, _) in enumerate(views_of(calls)):
                many = len(rows_of(questions))
                for row in ([1] * many, [0] * (many - 1) + [100], list(range(many))):
                    for kind in KINDS:
                        behind = last(*calls, ("table", place, *row), ("fewest", kind))
                        self.assertEqual(last(*calls, ("iftable", kind, place, *row)), behind)

    def test_it_changes_nothing(self):
        asking = [("viewis", 0), ("viewis", 1), ("viewis", 2), ("fewest", 0), ("fewest", 2), ("cheapest", 1),
                  ("cost", 7), ("world", 3), ("viewis", 0), ("ways", 2)]
        for calls in LOOSE:
            calls = trusted(calls, 11, 22, 33)
            plain = told(*calls, *asking)[-len(asking):]
            for place, (questions, _) in enumerate(views_of(calls)):
                for kind in (0, 1, 2, 3):
                    for row in ([0] * (len(rows_of(questions)) - 1) + [7], [100], []):
                        call = ("iftable", kind, place, *row)
                        self.assertEqual(told(*calls, call, *asking)[-len(asking):], plain)


class IfTrust(unittest.TestCase):
    def test_another_one_were_it_trusted_so_much(self):
        calls = trusted(LAST_IS_WRONG, 10, 20, 25)
        for trust, expected in ((1, [4, 1, 1]), (29, [4, 1, 29]), (30, [4, 1, 30]), (31, [3, 2, 30])):
            self.assertEqual([last(*calls, ("iftrust", kind, 2, trust)) for kind in KINDS], [expected] * 3)
        for trust, expected in ((1, [3, 2, 21]), (4, [3, 2, 24]), (5, [4, 1, 25]), (6, [4, 1, 25])):
            self.assertEqual([last(*calls, ("iftrust", kind, 0, trust)) for kind in KINDS], [expected] * 3)

    def test_only_that_kind_counts(self):
        calls = trusted(PAIR_AND_RING, 5, 6, 7, 8)
        self.assertEqual([last(*calls, ("iftrust", kind, 3, 100)) for kind in KINDS],
                         [[3, 2, 11], [1, 1, 5], [3, 2, 11]])

    def test_it_is_what_cheapest_tells_behind_trust(self):
        for calls in LOOSE:
            calls = trusted(calls, 3, 2, 4)
            for place in range(len(views_of(calls))):
                for trust in (1, 2, 5, 100):
                    for kind in KINDS:
                        behind = last(*calls, ("trust", place, trust), ("cheapest", kind))
                        self.assertEqual(last(*calls, ("iftrust", kind, place, trust)), behind)

    def test_it_changes_nothing(self):
        asking = [("cheapest", 0), ("cheapest", 2), ("fewest", 1), ("cost", 7), ("viewis", 1), ("trust", 0, 9),
                  ("trust", 1, 9), ("trust", 2, 9)]
        for calls in LOOSE:
            calls = trusted(calls, 3, 2, 4)
            plain = told(*calls, *asking)[-len(asking):]
            for place in range(3):
                for call in (("iftrust", 0, place, 50), ("iftrust", 2, place, 1), ("iftrust", 1, place, 0),
                             ("iftrust", 3, place, 50)):
                    self.assertEqual(told(*calls, call, *asking)[-len(asking):], plain)


if __name__ == "__main__":
    unittest.main()
