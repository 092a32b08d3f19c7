"""The line of calls: how it is handed in and given back, and what is answered ahead of a begin."""

import unittest

from doubtviews.views import answers
from lines import LARGEST, NAMES, last, line, told

LENGTHS = {"trust": 2, "together": 2, "blame": 2, "enough": 2, "iftable": 3, "iftrust": 3}

RICH = [
    ("begin", 3), ("view", 3), ("view", 5), ("view", 6),
    ("table", 0, 0, 1, 1, 0), ("table", 1, 0, 1, 1, 0), ("table", 2, 0, 1, 1, 0), ("trust", 1, 40),
    ("viewis", 1), ("together", 0, 7), ("conflicts", 0), ("fewest", 2), ("cheapest", 0), ("ways", 2), ("never", 1),
    ("always", 2), ("blame", 0, 1), ("enough", 2, 4), ("iftable", 0, 1, 1, 0, 0, 1), ("iftrust", 2, 0, 50), ("kept", 0),
    ("cost", 3), ("world", 5), ("viewis", 1), ("cheapest", 2), ("unview", 0), ("table", 0), ("iftable", 0, 0),
]


class Untouched(list):
    """A list that refuses to be changed."""

    def refuse(self, *others, **named):
        raise AssertionError("the list handed in was changed")

    __setitem__ = __delitem__ = __iadd__ = __imul__ = refuse
    append = clear = extend = insert = pop = remove = reverse = sort = refuse


class TheForm(unittest.TestCase):
    def test_the_list_as_it_stands(self):
        calls = [0, 1, 2, 0, 1, 1, 3, 0, 3, 5, 0, 0, 7, 8, 9, 0, 4, 1, 0, 0, 2, 1, 1, 0, 6, 2, 0, 12, 0]
        self.assertEqual(answers(calls), [1, 0, 1, 0, 1, 0, 5, 3, 0, 7, 8, 9, 1, -2, 1, 1])

    def test_questions_as_they_stand(self):
        calls = [0, 1, 2, 0, 1, 1, 1, 0, 1, 1, 3, 0, 3, 3, 0, 0, 9, 0, 3, 5, 1, 4, 0, 4, 0, 0]
        calls += [7, 2, 0, 3, 0, 8, 1, 0, 0, 9, 1, 0, 0]
        self.assertEqual(answers(calls), [1, 0, 1, 0, 1, 1, 1, 0, 1, 0, 1, 0, 2, 1, 3, 3, 1, 1, 1])

    def test_the_other_questions_as_they_stand(self):
        calls = [0, 1, 2, 0, 1, 1, 1, 0, 1, 1, 3, 0, 1, 1, 2, 0, 3, 3, 0, 0, 9, 0, 3, 5, 1, 4, 0, 4, 0, 0]
        calls += [10, 1, 0, 0, 11, 1, 0, 0, 12, 1, 0, 0, 13, 1, 0, 0, 14, 2, 0, 1, 0, 15, 2, 0, 4, 0]
        calls += [16, 4, 0, 0, 1, 0, 0, 17, 3, 0, 0, 5, 0, 18, 1, 0, 0, 19, 1, 7, 0]
        given = [1, 0, 1, 0, 1, 1, 1, 2, 1, 0, 1, 0]
        given += [3, 1, 1, 1, 3, 2, 1, 2, 2, 1, 2, 1, 0, 1, 1, 1, 0]
        given += [3, 0, 0, 0, 3, 2, 1, 1, 3, 2, 1, 2, 1, 3]
        self.assertEqual(answers(calls), given)

    def test_one_call(self):
        self.assertEqual(answers([0, 1, 2, 0]), [1, 0])
        self.assertEqual(answers([9, 1, 0, 0]), [1, -11])

    def test_a_table_of_no_numbers_and_of_ten(self):
        calls = [0, 1, 2, 0, 1, 1, 1, 0, 3, 1, 0, 0, 3, 11, 0, 1, 2, 3, 4, 5, 6, 7, 8, 9, 10, 0, 4, 1, 0, 0]
        self.assertEqual(answers(calls), [1, 0, 1, 0, 1, -22, 1, -22, 3, 1, 1, 1])
        calls = [0, 1, 2, 0, 1, 1, 1, 0, 16, 2, 0, 0, 0, 16, 12, 0, 0, 1, 2, 3, 4, 5, 6, 7, 8, 9, 10, 0, 9, 1, 0, 0]
        self.assertEqual(answers(calls), [1, 0, 1, 0, 1, -22, 1, -22, 3, 0, 0, 0])

    def test_sixty_calls(self):
        calls = [("begin", 4), ("view", 7)] + [("world", 15)] * 57 + [("viewis", 0)]
        self.assertEqual(last(*calls), [7, 1, 1, 1, 1, 1, 1, 1, 58])

    def test_all_twenty_calls_are_told_here(self):
        self.assertEqual({call[0] for call in RICH}, set(NAMES))

    def test_what_is_handed_in_stays(self):
        calls = Untouched(line(RICH))
        before = list(calls)
        answers(calls)
        self.assertEqual(list(calls), before)

    def test_a_table_is_no_part_of_what_was_handed_in(self):
        calls = line([("begin", 2), ("view", 1), ("table", 0, 5, 6), ("world", 0), ("world", 1), ("viewis", 0)])
        before = list(calls)
        self.assertEqual(answers(calls)[-4:], [3, 1, 6, 7])
        self.assertEqual(calls, before)

    def test_nothing_is_kept_from_one_time_to_the_next(self):
        calls = line(RICH)
        first = answers(calls)
        self.assertEqual(answers(calls), first)
        self.assertEqual(answers(line([("viewis", 0)])), [1, -11])
        self.assertEqual(answers(calls), first)

    def test_what_was_given_back_may_be_changed(self):
        calls = line(RICH)
        first = answers(calls)
        kept = list(first)
        first.clear()
        self.assertEqual(answers(calls), kept)


class AheadOfABegin(unittest.TestCase):
    def test_all_else_is_refused(self):
        for name in NAMES[1:]:
            for number in (0, 1, 3, LARGEST):
                with self.subTest(name=name, number=number):
                    numbers = [number] * LENGTHS.get(name, 1)
                    self.assertEqual(told((name, *numbers)), [[-11]])

    def test_a_table_of_any_length_is_refused(self):
        for many in range(11):
            self.assertEqual(told(("table", 0, *[1] * many), ("iftable", 0, 0, *[1] * many)), [[-11], [-11]])
            self.assertEqual(told(("iftable", 3, 0, *[1] * many)), [[-11]])

    def test_a_begin_that_is_refused_is_no_begin(self):
        for wrong in (0, 1, 5, LARGEST):
            calls = [("begin", wrong)] + [(name, *[0] * LENGTHS.get(name, 1)) for name in NAMES[1:]]
            self.assertEqual(told(*calls), [[-22]] + [[-11]] * 19)

    def test_a_view_ahead_of_a_begin_is_not_kept(self):
        self.assertEqual(told(("view", 1), ("begin", 2), ("viewis", 0)), [[-11], [0], [-2]])


class TheLargest(unittest.TestCase):
    def test_as_each_argument(self):
        calls = {
            ("begin", LARGEST): -22, ("view", LARGEST): -22, ("unview", LARGEST): -2,
            ("table", LARGEST, 1, 1): -2, ("table", 0, LARGEST, 1): -22, ("table", 0, 1, LARGEST): -22,
            ("table", LARGEST): -2, ("table", LARGEST, LARGEST): -2,
            ("viewis", LARGEST): -2, ("world", LARGEST): -22,
            ("trust", LARGEST, 1): -2, ("trust", 0, LARGEST): -22, ("trust", LARGEST, LARGEST): -2,
            ("together", LARGEST, 1): -22, ("together", 0, LARGEST): -22, ("together", LARGEST, LARGEST): -22,
            ("conflicts", LARGEST): -22, ("fewest", LARGEST): -22, ("cheapest", LARGEST): -22, ("ways", LARGEST): -22,
            ("never", LARGEST): -22, ("always", LARGEST): -22, ("kept", LARGEST): -22, ("cost", LARGEST): -22,
            ("blame", LARGEST, 0): -22, ("blame", 0, LARGEST): -2, ("blame", LARGEST, LARGEST): -22,
            ("enough", LARGEST, 1): -22, ("enough", 0, LARGEST): -22, ("enough", LARGEST, LARGEST): -22,
            ("iftable", LARGEST, 0, 1, 1): -22, ("iftable", 0, LARGEST, 1, 1): -2, ("iftable", 0, 0, 1, LARGEST): -22,
            ("iftable", 0, LARGEST, LARGEST): -2, ("iftable", LARGEST, LARGEST, 1, 1): -22,
            ("iftrust", LARGEST, 0, 1): -22, ("iftrust", 0, LARGEST, 1): -2, ("iftrust", 0, 0, LARGEST): -22,
            ("iftrust", 0, LARGEST, LARGEST): -2, ("iftrust", LARGEST, LARGEST, LARGEST): -22,
        }
        for call, refusal in calls.items():
            with self.subTest(call=call):
                seen = told(("begin", 2), ("view", 2), call, ("viewis", 0), ("view", 2), ("view", 1), ("trust", 0, 1))
                self.assertEqual(seen, [[0], [0], [refusal], [2, 1, 1], [-17], [1], [1]])


if __name__ == "__main__":
    unittest.main()
