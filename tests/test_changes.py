"""Promise 1: begin, view, unview, table, viewis, world, trust."""

import unittest

from lines import LARGEST, last, told

SIX = [("begin", 3)] + [("view", asked) for asked in range(1, 7)]


class Begin(unittest.TestCase):
    def test_two_to_four(self):
        for questions in range(8):
            self.assertEqual(told(("begin", questions)), [[0] if 2 <= questions <= 4 else [-22]])

    def test_there_are_no_views(self):
        self.assertEqual(told(("begin", 2), ("viewis", 0), ("unview", 0), ("world", 3)), [[0], [-2], [-2], [0]])

    def test_again(self):
        calls = [("begin", 2), ("view", 1), ("trust", 0, 9), ("table", 0, 4, 5), ("begin", 3), ("viewis", 0)]
        self.assertEqual(told(*calls, ("world", 7), ("view", 1), ("viewis", 0), ("trust", 0, 2)),
                         [[0], [0], [1], [0], [0], [-2], [0], [0], [1, 1, 1], [1]])

    def test_again_with_fewer_questions(self):
        self.assertEqual(told(("begin", 4), ("view", 8), ("begin", 2), ("view", 4), ("world", 4)),
                         [[0], [0], [0], [-22], [-22]])

    def test_a_refused_one_changes_nothing(self):
        for wrong in (0, 1, 5, LARGEST):
            self.assertEqual(told(("begin", 4), ("view", 8), ("trust", 0, 7), ("begin", wrong), ("viewis", 0),
                                  ("trust", 0, 7), ("world", 15)),
                             [[0], [0], [1], [-22], [8, 1, 1], [7], [1]])


class OneMoreView(unittest.TestCase):
    def test_each_set(self):
        for questions in (2, 3, 4):
            for asked in range(40):
                many = bin(asked).count("1")
                good = asked < 2 ** questions and 1 <= many <= 3
                seen = told(("begin", questions), ("view", asked), ("viewis", 0), ("trust", 0, 1))
                if good:
                    self.assertEqual(seen, [[0], [0], [asked] + [1] * 2 ** many, [1]])
                else:
                    self.assertEqual(seen, [[0], [-22], [-2], [-2]])

    def test_they_are_numbered_as_they_come(self):
        self.assertEqual(told(*SIX)[1:], [[0], [1], [2], [3], [4], [5]])

    def test_the_same_questions_twice(self):
        self.assertEqual(told(("begin", 3), ("view", 5), ("view", 4), ("view", 5), ("view", 1), ("viewis", 2)),
                         [[0], [0], [1], [-17], [2], [1, 1, 1]])

    def test_the_same_questions_again_once_they_are_gone(self):
        self.assertEqual(told(("begin", 3), ("view", 5), ("unview", 0), ("view", 5)), [[0], [0], [0], [0]])

    def test_the_seventh(self):
        self.assertEqual(told(*SIX, ("view", 7), ("viewis", 6), ("unview", 2), ("view", 7), ("viewis", 5))[7:],
                         [[-28], [-2], [5], [5], [7, 1, 1, 1, 1, 1, 1, 1, 1]])

    def test_which_refusal_comes_first(self):
        self.assertEqual(told(*SIX, ("view", 0), ("view", 8), ("view", 6), ("view", 7))[7:],
                         [[-22], [-22], [-17], [-28]])

    def test_four_questions_are_too_many_though_there_are_six_views(self):
        calls = [("begin", 4)] + [("view", asked) for asked in range(1, 7)]
        self.assertEqual(last(*calls, ("view", 15)), [-22])


class OneViewLess(unittest.TestCase):
    def test_those_behind_it_are_numbered_one_less(self):
        calls = [("begin", 3), ("view", 1), ("view", 6), ("view", 4), ("table", 0, 1, 2), ("table", 1, 3, 4, 5, 6),
                 ("table", 2, 7, 8), ("trust", 0, 10), ("trust", 1, 20), ("trust", 2, 30), ("unview", 1)]
        self.assertEqual(told(*calls, ("viewis", 0), ("viewis", 1), ("viewis", 2), ("trust", 0, 1), ("trust", 1, 1),
                              ("trust", 2, 1))[10:],
                         [[2], [1, 1, 2], [4, 7, 8], [-2], [10], [30], [-2]])

    def test_down_to_none(self):
        self.assertEqual(told(*SIX, *[("unview", 0)] * 7)[7:], [[5], [4], [3], [2], [1], [0], [-2]])

    def test_a_refused_one_changes_nothing(self):
        for wrong in (1, 2, LARGEST):
            self.assertEqual(told(("begin", 2), ("view", 2), ("unview", wrong), ("viewis", 0))[2:], [[-2], [2, 1, 1]])


class Table(unittest.TestCase):
    def test_it_is_kept(self):
        self.assertEqual(told(("begin", 3), ("view", 4), ("view", 7), ("table", 0, 0, 100),
                              ("table", 1, 1, 2, 3, 4, 5, 6, 7, 8), ("viewis", 0), ("viewis", 1))[3:],
                         [[0], [0], [4, 0, 100], [7, 1, 2, 3, 4, 5, 6, 7, 8]])

    def test_how_many_numbers(self):
        for asked, many in ((2, 2), (6, 4), (14, 8)):
            for given in range(11):
                seen = told(("begin", 4), ("view", asked), ("table", 0, *[3] * given), ("viewis", 0))
                good = given == many
                self.assertEqual(seen[2:], [[0 if good else -22], [asked] + [3 if good else 1] * many])

    def test_how_large_the_numbers(self):
        for row, good in (((100, 100), True), ((100, 0), True), ((0, 100), True), ((0, 0), False), ((101, 1), False),
                          ((1, 101), False), ((0, LARGEST), False), ((LARGEST, LARGEST), False), ((0, 1), True)):
            seen = told(("begin", 2), ("view", 1), ("table", 0, 7, 8), ("table", 0, *row), ("viewis", 0))
            self.assertEqual(seen[3:], [[0], [1, *row]] if good else [[-22], [1, 7, 8]])

    def test_no_such_view_comes_first(self):
        for row in ((), (0,), (0, 0), (1, 101), (1, 1)):
            self.assertEqual(told(("begin", 2), ("view", 1), ("table", 1, *row), ("viewis", 0))[2:],
                             [[-2], [1, 1, 1]])


class ViewIs(unittest.TestCase):
    def test_its_set_then_its_table(self):
        self.assertEqual(last(("begin", 4), ("view", 2), ("view", 9), ("table", 1, 4, 0, 2, 9), ("viewis", 1)),
                         [9, 4, 0, 2, 9])

    def test_no_such_view(self):
        self.assertEqual(told(("begin", 4), ("view", 2), ("viewis", 1), ("viewis", LARGEST))[2:], [[-2], [-2]])


class World(unittest.TestCase):
    def test_which_there_are(self):
        for questions in (2, 3, 4):
            for world in range(20):
                seen = last(("begin", questions), ("view", 1), ("view", 2), ("world", world))
                self.assertEqual(seen, [2] if world < 2 ** questions else [-22])

    def test_the_row_that_it_shows_in_each_view(self):
        # World 9 answers questions 0 and 3: of 0, 2 and 3 that's row 1 + 4, of 1 and 3 row 2, of 2 row 0.
        calls = [("begin", 4), ("view", 13), ("view", 10), ("view", 4), ("table", 1, 5, 5, 5, 5), ("world", 9)]
        self.assertEqual(told(*calls, ("viewis", 0), ("viewis", 1), ("viewis", 2))[5:],
                         [[3], [13, 1, 1, 1, 1, 1, 2, 1, 1], [10, 5, 5, 6, 5], [4, 2, 1]])

    def test_each_world_in_each_view(self):
        for asked in range(1, 15):
            for world in range(16):
                row = 0
                weight = 1
                for question in range(4):
                    if asked >> question & 1:
                        row += weight * (world >> question & 1)
                        weight *= 2
                expected = [1] * weight
                expected[row] = 2
                self.assertEqual(last(("begin", 4), ("view", asked), ("world", world), ("viewis", 0)),
                                 [asked] + expected)

    def test_a_row_that_was_not_seen(self):
        self.assertEqual(last(("begin", 2), ("view", 3), ("table", 0, 0, 0, 0, 1), ("world", 1), ("viewis", 0)),
                         [3, 0, 1, 0, 1])

    def test_never_more_than_a_hundred(self):
        calls = [("begin", 2), ("view", 1), ("view", 2), ("table", 0, 98, 100), ("table", 1, 99, 99)]
        calls += [("world", 0), ("world", 0), ("world", 0), ("viewis", 0), ("viewis", 1), ("world", 3), ("viewis", 0)]
        self.assertEqual(told(*calls)[5:], [[2], [2], [2], [1, 100, 100], [2, 100, 99], [2], [1, 100, 100]])

    def test_a_refused_one_changes_nothing(self):
        for wrong in (4, 5, LARGEST):
            self.assertEqual(told(("begin", 2), ("view", 3), ("world", wrong), ("viewis", 0))[2:],
                             [[-22], [3, 1, 1, 1, 1]])

    def test_no_views(self):
        self.assertEqual(told(("begin", 2), ("world", 3), ("world", 4)), [[0], [0], [-22]])


class Trust(unittest.TestCase):
    def test_it_answers_how_much_it_was(self):
        calls = [("begin", 2), ("view", 1), ("view", 3), ("trust", 1, 100), ("trust", 1, 50), ("trust", 0, 2),
                 ("trust", 1, 1), ("trust", 1, 1)]
        self.assertEqual(told(*calls)[3:], [[1], [100], [1], [50], [1]])

    def test_how_much_it_may_be(self):
        for trust, good in ((0, False), (1, True), (2, True), (99, True), (100, True), (101, False), (LARGEST, False)):
            seen = told(("begin", 2), ("view", 1), ("trust", 0, 42), ("trust", 0, trust), ("trust", 0, 1))
            self.assertEqual(seen[3:], [[42], [trust]] if good else [[-22], [42]])

    def test_no_such_view_comes_first(self):
        for trust in (0, 1, 101, LARGEST):
            self.assertEqual(told(("begin", 2), ("view", 1), ("trust", 1, trust), ("trust", 0, 1))[2:], [[-2], [1]])


if __name__ == "__main__":
    unittest.main()
