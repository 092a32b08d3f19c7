"""Enough, ways, never, always and blame, by each kind."""

import unittest

from lines import ALL_DIFFER, EVEN_AND_ODD, KINDS, LARGEST, LAST_IS_WRONG, PAIR_AND_RING, RING, SOFT_RING
from lines import TWO_AND_ONE, last, told, with_views

ALL_CAN = with_views(3, [(3, (1, 1, 1, 1)), (6, (2, 2, 2, 2))])


def asked(calls, *question):
    """What this question answers, by each kind; it is a call's name, then what it has behind the kind."""
    name, *numbers = question
    return [last(*calls, (name, kind, *numbers)) for kind in KINDS]


class Refusals(unittest.TestCase):
    def test_a_kind_above_two(self):
        for kind in (3, 4, LARGEST):
            for call in (("enough", kind, 0), ("enough", kind, 8), ("ways", kind), ("never", kind), ("always", kind),
                         ("blame", kind, 0), ("blame", kind, 3), ("blame", kind, LARGEST)):
                self.assertEqual(told(*RING, call, ("ways", 0))[-2:], [[-22], [3, 1, 2, 4]], call)

    def test_no_set_of_views(self):
        for number, expected in ((0, [1]), (7, [1]), (8, [-22]), (9, [-22]), (LARGEST, [-22])):
            self.assertEqual(asked(SOFT_RING, "enough", number), [expected] * 2 + [[0] if number == 0 else expected])

    def test_no_such_view(self):
        for place in (3, 4, LARGEST):
            self.assertEqual(asked(RING, "blame", place), [[-2]] * 3)

    def test_a_view_that_is_gone(self):
        calls = RING + [("blame", 0, 2), ("enough", 0, 4), ("unview", 0), ("blame", 0, 2), ("enough", 0, 4)]
        self.assertEqual(told(*calls)[-5:], [[1], [1], [2], [-2], [-22]])


class NoViews(unittest.TestCase):
    def test_only_nothing_can_be_left_out(self):
        for kind in KINDS:
            calls = (("begin", 2), ("enough", kind, 0), ("enough", kind, 1), ("ways", kind), ("never", kind),
                     ("always", kind), ("blame", kind, 0))
            self.assertEqual(told(*calls), [[0], [1], [-22], [1, 0], [0], [0], [-2]])


class Enough(unittest.TestCase):
    def sets(self, calls, kind, many):
        """The sets that it's enough to leave out."""
        return [number for number in range(2 ** many) if last(*calls, ("enough", kind, number)) == [1]]

    def test_all_can_be_together(self):
        for kind in KINDS:
            self.assertEqual(self.sets(ALL_CAN, kind, 2), [0, 1, 2, 3])

    def test_the_rings(self):
        some = [1, 2, 3, 4, 5, 6, 7]
        self.assertEqual([self.sets(RING, kind, 3) for kind in KINDS], [some, [0] + some, some])
        self.assertEqual([self.sets(SOFT_RING, kind, 3) for kind in KINDS], [[0] + some, [0] + some, some])

    def test_two_and_one(self):
        # To leave out the third one, that agrees with both, isn't enough.
        some = [1, 2, 3, 5, 6, 7]
        self.assertEqual([self.sets(TWO_AND_ONE, kind, 3) for kind in KINDS], [list(range(8)), some, some])

    def test_two_quarrels(self):
        self.assertEqual([self.sets(LAST_IS_WRONG, kind, 3) for kind in KINDS], [[3, 4, 5, 6, 7]] * 3)

    def test_six_views(self):
        quarrels = (7, 11, 13, 14, 28, 35)
        some = [number for number in range(64) if all(number & quarrel for quarrel in quarrels)]
        self.assertEqual(self.sets(EVEN_AND_ODD, 2, 6), some)
        self.assertEqual(self.sets(ALL_DIFFER, 1, 6), [31, 47, 55, 59, 61, 62, 63])


class Ways(unittest.TestCase):
    def test_all_can_be_together(self):
        self.assertEqual(asked(ALL_CAN, "ways"), [[1, 0]] * 3)

    def test_the_rings(self):
        self.assertEqual(asked(RING, "ways"), [[3, 1, 2, 4], [1, 0], [3, 1, 2, 4]])
        self.assertEqual(asked(SOFT_RING, "ways"), [[1, 0], [1, 0], [3, 1, 2, 4]])

    def test_two_and_one(self):
        self.assertEqual(asked(TWO_AND_ONE, "ways"), [[1, 0], [2, 1, 2], [2, 1, 2]])

    def test_one_that_is_not_the_fewest(self):
        self.assertEqual(asked(LAST_IS_WRONG, "ways"), [[2, 3, 4]] * 3)
        self.assertEqual(asked(PAIR_AND_RING, "ways"), [[3, 3, 5, 8], [2, 1, 8], [3, 3, 5, 8]])

    def test_six_views(self):
        self.assertEqual(asked(EVEN_AND_ODD, "ways"), [[1, 0], [1, 0], [6, 5, 6, 9, 10, 19, 44]])
        five = [6, 31, 47, 55, 59, 61, 62]
        self.assertEqual(asked(ALL_DIFFER, "ways"), [[1, 0], five, five])

    def test_trust_does_not_matter(self):
        calls = LAST_IS_WRONG + [("trust", 0, 100), ("trust", 1, 50), ("trust", 2, 99)]
        self.assertEqual(asked(calls, "ways"), [[2, 3, 4]] * 3)

    def test_it_follows_what_is_changed(self):
        calls = PAIR_AND_RING + [("unview", 0), ("ways", 0), ("world", 1), ("ways", 0), ("begin", 3), ("ways", 0)]
        self.assertEqual(told(*calls)[-6:], [[4], [3, 1, 2, 4], [4], [1, 0], [0], [1, 0]])
        # World 9 fits all once it was seen; but view 3 still tells of question 3 otherwise than view 0.
        calls = PAIR_AND_RING + [("world", 9), ("ways", 0), ("ways", 1)]
        self.assertEqual(told(*calls)[-3:], [[5], [1, 0], [2, 1, 8]])


class Never(unittest.TestCase):
    def test_all_can_be_together(self):
        self.assertEqual(asked(ALL_CAN, "never"), [[2, 0, 1]] * 3)

    def test_the_rings(self):
        self.assertEqual(asked(RING, "never"), [[0], [3, 0, 1, 2], [0]])
        self.assertEqual(asked(SOFT_RING, "never"), [[3, 0, 1, 2], [3, 0, 1, 2], [0]])

    def test_one_that_agrees_with_both(self):
        self.assertEqual(asked(TWO_AND_ONE, "never"), [[3, 0, 1, 2], [1, 2], [1, 2]])

    def test_a_pair_and_a_ring_beside_it(self):
        self.assertEqual(asked(PAIR_AND_RING, "never"), [[1, 4], [3, 1, 2, 4], [1, 4]])

    def test_six_views(self):
        self.assertEqual(asked(EVEN_AND_ODD, "never"), [[6, 0, 1, 2, 3, 4, 5]] * 2 + [[0]])
        self.assertEqual(asked(ALL_DIFFER, "never"), [[6, 0, 1, 2, 3, 4, 5], [0], [0]])


class Always(unittest.TestCase):
    def test_nobody_is(self):
        # One view alone can always be; so it's enough to leave out all others, whoever it is.
        for calls in (ALL_CAN, RING, SOFT_RING, TWO_AND_ONE, LAST_IS_WRONG, PAIR_AND_RING, EVEN_AND_ODD, ALL_DIFFER):
            self.assertEqual(asked(calls, "always"), [[0]] * 3)

    def test_one_view_in_all_but_one(self):
        # Views 1 to 3 agree, view 0 agrees with none of them: the ways out are view 0, or all others.
        calls = with_views(4, [(1, (1, 2)), (3, (1, 1, 1, 1)), (5, (1, 1, 1, 1)), (9, (1, 1, 1, 1))])
        self.assertEqual(told(*calls, ("ways", 1), ("always", 1), ("never", 1))[-3:], [[2, 1, 14], [0], [0]])


class Blame(unittest.TestCase):
    def blamed(self, calls, kind, many):
        return [last(*calls, ("blame", kind, place))[0] for place in range(many)]

    def test_all_can_be_together(self):
        for kind in KINDS:
            self.assertEqual(self.blamed(ALL_CAN, kind, 2), [0, 0])

    def test_the_ring(self):
        self.assertEqual([self.blamed(RING, kind, 3) for kind in KINDS], [[1, 1, 1], [0, 0, 0], [1, 1, 1]])

    def test_two_and_one(self):
        self.assertEqual([self.blamed(TWO_AND_ONE, kind, 3) for kind in KINDS], [[0, 0, 0], [1, 1, 0], [1, 1, 0]])

    def test_two_quarrels(self):
        self.assertEqual([self.blamed(LAST_IS_WRONG, kind, 3) for kind in KINDS], [[1, 1, 2]] * 3)

    def test_a_pair_and_a_ring_beside_it(self):
        self.assertEqual([self.blamed(PAIR_AND_RING, kind, 5) for kind in KINDS],
                         [[1, 1, 1, 2, 0], [1, 0, 0, 1, 0], [1, 1, 1, 2, 0]])

    def test_six_views(self):
        # The conflicts are 7, 11, 13, 14, 28 and 35.
        self.assertEqual(self.blamed(EVEN_AND_ODD, 2, 6), [4, 4, 4, 4, 1, 1])
        self.assertEqual(self.blamed(ALL_DIFFER, 1, 6), [5] * 6)


if __name__ == "__main__":
    unittest.main()
