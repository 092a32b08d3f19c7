"""Together, conflicts and fewest, by each kind."""

import unittest

from lines import ALL_DIFFER, EVEN_AND_ODD, KINDS, LARGEST, LAST_IS_WRONG, PAIR_AND_RING, RING, SOFT_RING
from lines import TWO_AND_ONE, last, table_of, told, with_views


def six(whole):
    """Six views that come of one whole."""
    return [(asked, table_of(whole, asked)) for asked in (7, 11, 13, 14, 3, 12)]


class Refusals(unittest.TestCase):
    def test_a_kind_above_two(self):
        for kind in (3, 4, LARGEST):
            for call in (("together", kind, 0), ("together", kind, 8), ("conflicts", kind), ("fewest", kind)):
                self.assertEqual(told(*RING, call, ("conflicts", 0))[-2:], [[-22], [1, 7]])

    def test_no_set_of_views(self):
        for kind in KINDS:
            for number, expected in ((7, 1), (8, -22), (9, -22), (LARGEST, -22)):
                calls = [("begin", 3), ("view", 1), ("view", 2), ("view", 4)]
                self.assertEqual(last(*calls, ("together", kind, number)), [expected])

    def test_a_view_that_is_gone(self):
        calls = [("begin", 3), ("view", 1), ("view", 2)]
        self.assertEqual(told(*calls, ("together", 0, 2), ("unview", 0), ("together", 0, 2), ("together", 0, 1))[3:],
                         [[1], [1], [-22], [1]])


class NoViews(unittest.TestCase):
    def test_nothing_is_in_doubt(self):
        for kind in KINDS:
            calls = (("begin", 2), ("together", kind, 0), ("together", kind, 1), ("conflicts", kind), ("fewest", kind))
            self.assertEqual(told(*calls), [[0], [1], [-22], [0], [0, 0, 0]])


class Kinds(unittest.TestCase):
    def ask(self, calls, kind, number):
        return last(*calls, ("together", kind, number))[0]

    def test_no_views_and_one_can_always_be(self):
        for calls in (RING, SOFT_RING, TWO_AND_ONE, LAST_IS_WRONG):
            for kind in KINDS:
                self.assertEqual([self.ask(calls, kind, number) for number in (0, 1, 2, 4)], [1, 1, 1, 1])

    def test_a_ring_that_agrees_and_no_world_fits(self):
        for number, expected in ((3, [1, 1, 1]), (5, [1, 1, 1]), (6, [1, 1, 1]), (7, [0, 1, 0])):
            self.assertEqual([self.ask(RING, kind, number) for kind in KINDS], expected)

    def test_a_ring_that_agrees_and_has_no_whole_though_each_world_fits(self):
        for number, expected in ((3, [1, 1, 1]), (5, [1, 1, 1]), (6, [1, 1, 1]), (7, [1, 1, 0])):
            self.assertEqual([self.ask(SOFT_RING, kind, number) for kind in KINDS], expected)

    def test_two_that_do_not_agree_and_one_that_agrees_with_both(self):
        for number, expected in ((3, [1, 0, 0]), (5, [1, 1, 1]), (6, [1, 1, 1]), (7, [1, 0, 0])):
            self.assertEqual([self.ask(TWO_AND_ONE, kind, number) for kind in KINDS], expected)

    def test_some_world_fits_both_though_other_rows_differ(self):
        calls = with_views(2, [(1, (0, 5)), (3, (50, 1, 50, 0))])
        self.assertEqual([self.ask(calls, kind, 3) for kind in KINDS], [1, 0, 0])

    def test_a_row_that_is_not_seen(self):
        calls = with_views(2, [(1, (0, 5)), (3, (50, 0, 50, 0))])
        self.assertEqual([self.ask(calls, kind, 3) for kind in KINDS], [0, 0, 0])

    def test_margins_are_shares_and_not_counts(self):
        calls = with_views(2, [(1, (25, 75)), (3, (1, 0, 0, 3))])
        self.assertEqual([self.ask(calls, kind, 3) for kind in KINDS], [1, 1, 1])
        calls = with_views(2, [(1, (25, 74)), (3, (1, 0, 0, 3))])
        self.assertEqual([self.ask(calls, kind, 3) for kind in KINDS], [1, 0, 0])

    def test_no_questions_in_common(self):
        calls = with_views(4, [(5, (1, 2, 3, 94)), (10, (100, 0, 0, 7))])
        self.assertEqual([self.ask(calls, kind, 3) for kind in KINDS], [1, 1, 1])

    def test_two_questions_in_common(self):
        # Of questions 1 and 3 the first tells 3, 7, 11, 15 of 36; so does the second, twice.
        calls = with_views(4, [(11, (1, 2, 3, 4, 5, 6, 7, 8)), (14, (6, 10, 0, 4, 20, 30, 2, 0))])
        self.assertEqual([self.ask(calls, kind, 3) for kind in KINDS], [1, 1, 1])
        # Each question by itself is told the same still, but not both at once.
        calls = with_views(4, [(11, (1, 2, 3, 4, 5, 6, 7, 8)), (14, (7, 9, 0, 4, 19, 31, 2, 0))])
        self.assertEqual([self.ask(calls, kind, 3) for kind in KINDS], [1, 0, 0])

    def test_it_follows_what_is_changed(self):
        calls = with_views(2, [(1, (0, 1)), (3, (1, 0, 1, 0))])
        calls += [("together", 0, 3), ("world", 0), ("together", 0, 3), ("together", 1, 3), ("table", 0, 1, 0),
                  ("together", 1, 3), ("together", 2, 3), ("table", 1, 0, 1, 0, 0), ("together", 1, 3),
                  ("unview", 0), ("together", 1, 1)]
        self.assertEqual(told(*calls)[5:], [[0], [2], [1], [0], [0], [1], [1], [0], [0], [1], [1]])

    def test_six_views_of_one_whole(self):
        calls = with_views(4, six([3, 0, 1, 4, 1, 5, 0, 2, 6, 5, 3, 5, 0, 0, 7, 9]))
        for kind in KINDS:
            self.assertEqual(self.ask(calls, kind, 63), 1)

    def test_the_last_of_six_does_not_agree(self):
        views = six([3, 0, 1, 4, 1, 5, 0, 2, 6, 5, 3, 5, 0, 0, 7, 9])
        views[5][1][0] += 1
        calls = with_views(4, views)
        self.assertEqual([self.ask(calls, kind, 63) for kind in KINDS], [1, 0, 0])
        self.assertEqual([self.ask(calls, kind, 31) for kind in KINDS], [1, 1, 1])


class Conflicts(unittest.TestCase):
    def ask(self, calls):
        return [last(*calls, ("conflicts", kind)) for kind in KINDS]

    def test_all_can_be_together(self):
        self.assertEqual(self.ask(with_views(3, [(3, (1, 1, 1, 1)), (6, (2, 2, 2, 2))])), [[0], [0], [0]])

    def test_the_ring(self):
        self.assertEqual(self.ask(RING), [[1, 7], [0], [1, 7]])

    def test_the_ring_that_each_world_fits(self):
        self.assertEqual(self.ask(SOFT_RING), [[0], [0], [1, 7]])

    def test_two_and_one(self):
        self.assertEqual(self.ask(TWO_AND_ONE), [[0], [1, 3], [1, 3]])

    def test_two_of_them(self):
        self.assertEqual(self.ask(LAST_IS_WRONG), [[2, 5, 6], [2, 5, 6], [2, 5, 6]])

    def test_a_pair_and_a_ring_beside_it(self):
        self.assertEqual(self.ask(PAIR_AND_RING), [[2, 9, 14], [1, 9], [2, 9, 14]])

    def test_six_views_any_two_of_which_differ(self):
        pairs = sorted(2 ** one + 2 ** other for one in range(6) for other in range(one))
        self.assertEqual(self.ask(ALL_DIFFER), [[0], [15] + pairs, [15] + pairs])

    def test_two_of_three_views_and_of_four(self):
        self.assertEqual(self.ask(EVEN_AND_ODD), [[0], [0], [6, 7, 11, 13, 14, 28, 35]])


class Fewest(unittest.TestCase):
    def ask(self, calls):
        return [last(*calls, ("fewest", kind)) for kind in KINDS]

    def test_all_can_be_together(self):
        calls = with_views(3, [(3, (1, 1, 1, 1)), (6, (2, 2, 2, 2))]) + [("trust", 0, 100)]
        self.assertEqual(self.ask(calls), [[0, 0, 0]] * 3)

    def test_of_like_ones_the_lesser_number(self):
        self.assertEqual(self.ask(RING), [[1, 1, 1], [0, 0, 0], [1, 1, 1]])
        self.assertEqual(self.ask(TWO_AND_ONE), [[0, 0, 0], [1, 1, 1], [1, 1, 1]])

    def test_trust_is_told_and_does_not_choose(self):
        calls = RING + [("trust", 0, 100), ("trust", 1, 3), ("trust", 2, 2)]
        self.assertEqual(self.ask(calls), [[1, 1, 100], [0, 0, 0], [1, 1, 100]])

    def test_fewer_views_ahead_of_the_lesser_number(self):
        calls = LAST_IS_WRONG + [("trust", 2, 60)]
        self.assertEqual(self.ask(calls), [[4, 1, 60]] * 3)

    def test_two_quarrels(self):
        views = [(1, (1, 0)), (3, (0, 1, 0, 1)), (4, (1, 0)), (12, (0, 1, 0, 1))]
        calls = with_views(4, views) + [("trust", 0, 10), ("trust", 2, 20)]
        self.assertEqual(self.ask(calls), [[5, 2, 30]] * 3)

    def test_six_views_any_two_of_which_differ(self):
        calls = ALL_DIFFER + [("trust", place, 90 + place) for place in range(6)]
        self.assertEqual(self.ask(calls), [[0, 0, 0], [31, 5, 460], [31, 5, 460]])

    def test_six_views_of_which_two_are_enough(self):
        calls = EVEN_AND_ODD + [("trust", 0, 30), ("trust", 2, 40)]
        self.assertEqual(self.ask(calls), [[0, 0, 0], [0, 0, 0], [5, 2, 70]])

    def test_it_follows_what_is_changed(self):
        calls = LAST_IS_WRONG + [("unview", 0), ("fewest", 0), ("trust", 0, 8), ("fewest", 0), ("world", 0),
                                 ("fewest", 0), ("begin", 2), ("fewest", 0)]
        self.assertEqual(told(*calls)[-8:], [[2], [1, 1, 1], [1], [1, 1, 8], [2], [0, 0, 0], [0], [0, 0, 0]])


if __name__ == "__main__":
    unittest.main()
