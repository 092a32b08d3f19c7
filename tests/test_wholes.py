"""Kind 2: tables that agree, where it's known by a formula whether there is a whole."""

import itertools
import unittest
from fractions import Fraction

from lines import last, numbers_from, table_of, with_views


def whole_is_told(questions, views):
    """What together answers of all these views, by kind 2."""
    return last(*with_views(questions, views), ("together", 2, 2 ** len(views) - 1))[0]


def ring(differ, of):
    """Of 3 questions each two, answered otherwise so often; each question is answered 1 in half of all."""
    return [(asked, (of - x, x, x, of - x)) for asked, x in zip((3, 5, 6), differ)]


def ring_has_whole(differ, of):
    """Whether three questions can differ so often: no two more than by way of the third, nor all too often."""
    first, second, third = differ
    return (first <= second + third and second <= first + third and third <= first + second
            and first + second + third <= 2 * of)


def triples_have_whole(leans):
    """Of 4 questions each three, each row as likely as all that are even, or odd, like it.

    A world is as likely as 1, and each view's lean, or less it, and a free number, or less it, in 16.
    """
    bounds = {0: [], 1: []}
    for world in range(16):
        known = 1
        for asked, lean in leans.items():
            known += lean if bin(world & asked).count("1") % 2 == 0 else -lean
        bounds[bin(world).count("1") % 2].append(known)
    return -min(bounds[0]) <= min(bounds[1])


class Rings(unittest.TestCase):
    def test_all_of_small_numbers(self):
        for of in (1, 2, 3, 6):
            for differ in itertools.product(range(of + 1), repeat=3):
                self.assertEqual(whole_is_told(3, ring(differ, of)), int(ring_has_whole(differ, of)), (of, differ))

    def test_at_the_edge(self):
        for differ, expected in (((66, 67, 67), 1), ((67, 67, 67), 0), ((67, 67, 66), 1), ((100, 50, 50), 1),
                                 ((100, 50, 51), 0), ((100, 50, 49), 0), ((99, 1, 100), 1), ((99, 1, 99), 1),
                                 ((1, 1, 3), 0), ((1, 2, 3), 1), ((0, 0, 1), 0), ((100, 100, 0), 1)):
            self.assertEqual(whole_is_told(3, ring(differ, 100)), expected, differ)

    def test_nothing_is_rounded(self):
        # A third of 100 can't be told in hundredths: the first two leave the third no room for more.
        first = (3, (1, 2, 2, 1))
        second = (5, (10, 20, 20, 10))
        for third, expected in (((1, 2, 2, 1), 1), ((33, 66, 66, 33), 1), ((33, 67, 67, 33), 0), ((32, 65, 65, 32), 0),
                                ((34, 67, 67, 34), 1), ((49, 99, 99, 49), 0), ((50, 100, 100, 50), 1),
                                ((50, 99, 99, 50), 1)):
            self.assertEqual(whole_is_told(3, [first, second, (6, third)]), expected, third)


class Triples(unittest.TestCase):
    def test_all_of_small_numbers(self):
        of = 4
        for evens in itertools.product(range(of + 1), repeat=4):
            views = []
            leans = {}
            for asked, even in zip((7, 11, 13, 14), evens):
                odd = of - even
                views.append((asked, (even, odd, odd, even, odd, even, even, odd)))
                leans[asked] = Fraction(even - odd, of)
            self.assertEqual(whole_is_told(4, views), int(triples_have_whole(leans)), evens)


class OfOneWhole(unittest.TestCase):
    def views(self, numbers, questions):
        """Six views at most, whose tables come of one whole, each of them so many times as often."""
        whole = [max(0, next(numbers) % 5 - 1) for _ in range(2 ** questions)]
        whole[next(numbers) % len(whole)] += 1
        sets = [asked for asked in range(1, 2 ** questions) if bin(asked).count("1") <= 3]
        while len(sets) > 6:
            sets.pop(next(numbers) % len(sets))
        return [(asked, table_of(whole, asked, 1 + next(numbers) % 3)) for asked in sets]

    def test_it_is_found(self):
        numbers = numbers_from(3)
        for turn in range(200):
            questions = 2 + turn % 3
            views = self.views(numbers, questions)
            self.assertEqual(whole_is_told(questions, views), 1, views)

    def test_one_number_more_and_two_do_not_agree(self):
        numbers = numbers_from(4)
        for turn in range(100):
            whole = [next(numbers) % 6 for _ in range(16)]
            whole[0] += 1
            views = [(asked, table_of(whole, asked)) for asked in (7, 11, 13, 14)]
            table = views[turn % 4][1]
            row = next(numbers) % 8
            table[row] += 1
            if table[row] < sum(table):
                self.assertEqual(whole_is_told(4, views), 0, views)

    def test_one_world_alone(self):
        for world in range(16):
            whole = [0] * 16
            whole[world] = 1
            times = {1: 1, 6: 2, 11: 3, 13: 50, 14: 99, 12: 100}
            views = [(asked, table_of(whole, asked, many)) for asked, many in times.items()]
            self.assertEqual(whole_is_told(4, views), 1)

    def test_the_largest_tables(self):
        views = [(asked, [100] * 8) for asked in (7, 11, 13, 14)] + [(3, [100] * 4), (12, [99] * 4)]
        self.assertEqual(whole_is_told(4, views), 1)
        views[5] = (12, [99, 99, 99, 100])
        self.assertEqual(whole_is_told(4, views), 0)


if __name__ == "__main__":
    unittest.main()
