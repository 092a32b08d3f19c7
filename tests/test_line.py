"""The line of calls: how it is handed in and given back, and what is answered ahead of a begin."""

import unittest

from doubtviews.views import answers
from lines import LARGEST, NAMES, last, line, told

LENGTHS = {"trust": 2, "together": 2, "blame": 2, "enough": 2, "iftable": 3, "iftrust": 3}

RICH = [
    ("begin", 3), ("view", 3), ("view", 5), ("view", 6),
    ("table", 0, 0, 1, 1, 0), ("table", 1, 0, 1, 1, 0), ("table", 2, 0, 1, 1, 0), ("trust", 1, 40),
    ("viewis", 1), ("conflicts", 0), ("fewest", 2), ("world", 5), ("viewis", 1), ("unview", 0), ("table", 0),
]


class Untouched(list):
    """A list that refuses to be changed."""

    def refuse(self, *others, **named):
        raise AssertionError("the list handed in was changed")

    __setitem__ = __delitem__ = __iadd__ = __imul__ = refuse
    append = clear = extend = insert = pop = remove = reverse = sort = refuse


class TheForm(unittest.TestCase):
    def test_the_list_as_it_stands(self):
        calls = [0, 1, 2, 0, 1, 1, 3, 0, 3, 5, 0, 0, 7, 8, 9, 0, 4, 1, 0, 0, 2, 1, 1, 0, 6, 2, 0, 12, 0]
        self.assertEqual(answers(calls), [1, 0, 1, 0, 1, 0, 5, 3, 0, 7, 8, 9, 1, -2, 1, 1])

    def test_questions_as_they_stand(self):
        calls = [0, 1, 2, 0, 1, 1, 1, 0, 1, 1, 3, 0, 3, 3, 0, 0, 9, 0, 3, 5, 1, 4, 0, 4, 0, 0]
        calls += [7, 2, 0, 3, 0, 8, 1, 0, 0, 9, 1, 0, 0]
        self.assertEqual(answers(calls), [1, 0, 1, 0, 1, 1, 1, 0, 1, 0, 1, 0, 2, 1, 3, 3, 1, 1, 1])

    def test_one_call(self):
        self.assertEqual(answers([0, 1, 2, 0]), [1, 0])
        self.assertEqual(answers([9, 1, 0, 0]), [1, -11])

    def test_a_table_of_no_numbers_and_of_ten(self):
        calls = [0, 1, 2, 0, 1, 1, 1, 0, 3, 1, 0, 0, 3, 11, 0, 1, 2, 3, 4, 5, 6, 7, 8, 9, 10, 0, 4, 1, 0, 0]
        self.assertEqual(answers(calls), [1, 0, 1, 0, 1, -22, 1, -22, 3, 1, 1, 1])

    def test_sixty_calls(self):
        calls = [("begin", 4), ("view", 7)] + [("world", 15)] * 57 + [("viewis", 0)]
        self.assertEqual(last(*calls), [7, 1, 1, 1, 1, 1, 1, 1, 58])

    def test_what_is_handed_in_stays(self):
        calls = Untouched(line(RICH))
        before = list(calls)
        answers(calls)
        self.assertEqual(list(calls), before)

    def test_a_table_is_no_part_of_what_was_handed_in(self):
        calls = line([("begin", 2), ("view", 1), ("table", 0, 5, 6), ("world", 0), ("world", 1), ("viewis", 0)])
        before = list(calls)
        self.assertEqual(answers(calls)[-4:], [3, 1, 6, 7])
        self.assertEqual(calls, before)

    def test_nothing_is_kept_from_one_time_to_the_next(self):
        calls = line(RICH)
        first = answers(calls)
        self.assertEqual(answers(calls), first)
        self.assertEqual(answers(line([("viewis", 0)])), [1, -11])
        self.assertEqual(answers(calls), first)

    def test_what_was_given_back_may_be_changed(self):
        calls = line(RICH)
        first = answers(calls)
        kept = list(first)
        first.clear()
        self.assertEqual(answers(calls), kept)


class AheadOfABegin(unittest.TestCase):
    def test_all_else_is_refused(self):
        for name in NAMES[1:]:
            for number in (0, 1, 3, LARGEST):
                with self.subTest(name=name, number=number):
                    numbers = [number] * LENGTHS.get(name, 1)
                    self.assertEqual(told((name, *numbers)), [[-11]])

    def test_a_table_of_any_length_is_refused(self):
        for many in range(11):
            self.assertEqual(told(("table", 0, *[1] * many)), [[-11]])

    def test_a_begin_that_is_refused_is_no_begin(self):
        for wrong in (0, 1, 5, LARGEST):
            calls = (("begin", wrong), ("view", 1), ("world", 0), ("fewest", 0), ("together", 0, 0))
            self.assertEqual(told(*calls), [[-22], [-11], [-11], [-11], [-11]])

    def test_a_view_ahead_of_a_begin_is_not_kept(self):
        self.assertEqual(told(("view", 1), ("begin", 2), ("viewis", 0)), [[-11], [0], [-2]])


class TheLargest(unittest.TestCase):
    def test_as_each_argument(self):
        calls = {
            ("begin", LARGEST): -22, ("view", LARGEST): -22, ("unview", LARGEST): -2,
            ("table", LARGEST, 1, 1): -2, ("table", 0, LARGEST, 1): -22, ("table", 0, 1, LARGEST): -22,
            ("table", LARGEST): -2, ("table", LARGEST, LARGEST): -2,
            ("viewis", LARGEST): -2, ("world", LARGEST): -22,
            ("trust", LARGEST, 1): -2, ("trust", 0, LARGEST): -22, ("trust", LARGEST, LARGEST): -2,
            ("together", LARGEST, 1): -22, ("together", 0, LARGEST): -22, ("together", LARGEST, LARGEST): -22,
            ("conflicts", LARGEST): -22, ("fewest", LARGEST): -22,
        }
        for call, refusal in calls.items():
            with self.subTest(call=call):
                seen = told(("begin", 2), ("view", 2), call, ("viewis", 0), ("view", 2), ("view", 1), ("trust", 0, 1))
                self.assertEqual(seen, [[0], [0], [refusal], [2, 1, 1], [-17], [1], [1]])


if __name__ == "__main__":
    unittest.main()
