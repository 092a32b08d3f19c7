"""What holds, whatever the views are: over views that are drawn."""

import unittest

from lines import KINDS, drawn_views, last, numbers_from, told, with_views


def drawn():
    """Calls that make views and trust them; then how much each is trusted."""
    numbers = numbers_from(11)
    for turn in range(60):
        questions = 2 + turn % 3
        views = drawn_views(numbers, questions)
        trusts = [1 + next(numbers) % (4 if turn % 2 else 100) for _ in views]
        calls = with_views(questions, views)
        yield calls + [("trust", place, trust) for place, trust in enumerate(trusts)], trusts


def each(calls, kind, name, many):
    """What a call answers for each of so many numbers, asked thirty at once."""
    seen = []
    for start in range(0, many, 30):
        asked = [(name, kind, number) for number in range(start, min(start + 30, many))]
        seen += [answer[0] for answer in told(*calls, *asked)[len(calls):]]
    return seen


def listed(calls, kind, name):
    """What a call tells that tells first how many there are; it tells them rising, each once."""
    many, *found = last(*calls, (name, kind))
    assert many == len(found) and found == sorted(set(found))
    return found


def size(number):
    """How many members a set has."""
    return bin(number).count("1")


def views_in(number):
    """The members of a set."""
    return [place for place in range(6) if number >> place & 1]


class WhatHolds(unittest.TestCase):
    def test_what_can_not_be_together_has_a_conflict_in_it(self):
        for calls, trusts in drawn():
            for kind in KINDS:
                can = each(calls, kind, "together", 2 ** len(trusts))
                quarrels = listed(calls, kind, "conflicts")
                for number, answer in enumerate(can):
                    self.assertEqual(answer == 0, any(number & quarrel == quarrel for quarrel in quarrels))
                for quarrel in quarrels:
                    self.assertEqual([other for other in quarrels if other & quarrel == other], [quarrel])
                    self.assertTrue(size(quarrel) == 2 if kind == 1 else size(quarrel) >= 2)

    def test_of_views_that_can_be_together_any_can(self):
        for calls, trusts in drawn():
            for kind in KINDS:
                can = each(calls, kind, "together", 2 ** len(trusts))
                for number, answer in enumerate(can):
                    for place in views_in(number):
                        self.assertTrue(answer <= can[number - 2 ** place])

    def test_what_comes_of_one_whole_agrees_and_some_world_fits_it(self):
        for calls, trusts in drawn():
            by_world, by_two, by_whole = [each(calls, kind, "together", 2 ** len(trusts)) for kind in KINDS]
            for number, answer in enumerate(by_whole):
                self.assertTrue(answer <= by_world[number] and answer <= by_two[number])

    def test_it_is_enough_just_if_each_conflict_is_met(self):
        for calls, trusts in drawn():
            for kind in KINDS:
                quarrels = listed(calls, kind, "conflicts")
                can = each(calls, kind, "together", 2 ** len(trusts))
                for number, answer in enumerate(each(calls, kind, "enough", 2 ** len(trusts))):
                    self.assertEqual(answer == 1, all(number & quarrel for quarrel in quarrels))
                    self.assertEqual(answer, can[2 ** len(trusts) - 1 - number])

    def test_nothing_that_is_enough_goes_below_the_fewest_and_the_cheapest(self):
        for calls, trusts in drawn():
            for kind in KINDS:
                answers = enumerate(each(calls, kind, "enough", 2 ** len(trusts)))
                some = [number for number, answer in answers if answer]
                costs = {number: sum(trusts[place] for place in views_in(number)) for number in some}
                few = min(some, key=lambda number: (size(number), number))
                cheap = min(some, key=lambda number: (costs[number], size(number), number))
                self.assertEqual(last(*calls, ("fewest", kind)), [few, size(few), costs[few]])
                self.assertEqual(last(*calls, ("cheapest", kind)), [cheap, size(cheap), costs[cheap]])
                self.assertEqual([last(*calls, ("cost", number))[0] for number in (few, cheap)],
                                 [costs[few], costs[cheap]])
                self.assertEqual(listed(calls, kind, "kept"), [p for p in range(len(trusts)) if p not in views_in(few)])

    def test_ways_out_are_enough_but_nothing_less(self):
        for calls, trusts in drawn():
            for kind in KINDS:
                enough = each(calls, kind, "enough", 2 ** len(trusts))
                outs = [number for number, answer in enumerate(enough)
                        if answer and not any(enough[number - 2 ** place] for place in views_in(number))]
                self.assertEqual(listed(calls, kind, "ways"), outs)
                self.assertIn(last(*calls, ("fewest", kind))[0], outs)
                self.assertIn(last(*calls, ("cheapest", kind))[0], outs)

    def test_who_is_in_no_conflict_is_in_no_way_out(self):
        for calls, trusts in drawn():
            for kind in KINDS:
                quarrels = listed(calls, kind, "conflicts")
                outs = listed(calls, kind, "ways")
                blamed = [sum(quarrel >> place & 1 for quarrel in quarrels) for place in range(len(trusts))]
                never = listed(calls, kind, "never")
                self.assertEqual(each(calls, kind, "blame", len(trusts)), blamed)
                self.assertEqual(never, [place for place, many in enumerate(blamed) if many == 0])
                self.assertEqual(never, [p for p in range(len(trusts)) if not any(out >> p & 1 for out in outs)])

    def test_who_is_in_each_way_out_is_in_whatever_is_enough(self):
        for calls, trusts in drawn():
            for kind in KINDS:
                outs = listed(calls, kind, "ways")
                always = listed(calls, kind, "always")
                self.assertEqual(always, [p for p in range(len(trusts)) if all(out >> p & 1 for out in outs)])
                for number, answer in enumerate(each(calls, kind, "enough", 2 ** len(trusts))):
                    self.assertTrue(not answer or all(number >> place & 1 for place in always))


if __name__ == "__main__":
    unittest.main()
