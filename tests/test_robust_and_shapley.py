"""robust and shapley: what they answer and refuse."""

import unittest
from fractions import Fraction
from itertools import permutations
from random import Random

from helper import GREATEST, Words, asked, last, play, play_by_words, store

SIMILAR = [(0, 1, 50), (0, 2, 80), (1, 2, 30), (1, 3, 60), (3, 2, 10)]
TWO = store(4, SIMILAR, [(0, 2), (1, 1)])
# Event 0 gives item 1 a score of 70, each of the others gives item 2 one of 30.
ONE_AGAINST_SIX = store(4, [(3, 1, 70), (0, 2, 30)], [(3, 1)] + [(0, 1)] * 6)
# Item 4 is second by each event and by each pair, and first by all three.
ALL_THREE = store(6, [(0, 4, 60), (1, 4, 60), (2, 4, 60), (0, 5, 100), (1, 5, 70), (0, 3, 21),
                      (1, 3, 21), (2, 3, 100)], [(0, 1), (1, 1), (2, 1)])


def robust_at(calls, counts, member=9):
    return asked(calls, [("robust", member, count) for count in counts])


class Robust(unittest.TestCase):
    def test_the_first_recommendation_changes_without_one(self):
        self.assertEqual(robust_at(TWO, (0, 1, 2, 3, GREATEST)), [[1], [0], [0], [0], [0]])

    def test_one_event(self):
        calls = store(2, [(0, 1, 1)], [(0, 1)])
        self.assertEqual(robust_at(calls, (0, 1, 2, GREATEST)), [[1], [0], [0], [0]])

    def test_seven_events_of_which_any_one_is_enough(self):
        calls = store(2, [(0, 1, 50)], [(0, 1)] * 7)
        self.assertEqual(robust_at(calls, range(9)), [[1]] * 7 + [[0]] * 2)

    def test_some_in_between(self):
        # Item 1 stays ahead of item 2 as long as two of the three light events are there.
        calls = store(4, [(0, 1, 50), (3, 2, 70)], [(3, 1), (0, 1), (0, 1), (0, 1)])
        self.assertEqual(robust_at(calls, (0, 1, 2, 3, 4, 5)), [[1], [1], [0], [0], [0], [0]])
        self.assertEqual(robust_at(ONE_AGAINST_SIX, (0, 1, 2, 3, 4)), [[1], [1], [1], [1], [0]])

    def test_a_tie_counts_by_the_smaller_number(self):
        # Without event 1 items 1 and 2 tie, and item 1 is the first one still.
        calls = store(4, [(0, 1, 30), (0, 2, 30), (3, 1, 1)], [(0, 1), (3, 1)])
        self.assertEqual(robust_at(calls, (1, 2)), [[1], [0]])
        # Without event 1 they tie, too, but item 2 was the first one.
        calls = store(4, [(0, 1, 30), (0, 2, 30), (3, 2, 1)], [(0, 1), (3, 1)])
        self.assertEqual(robust_at(calls, (0, 1)), [[1], [0]])

    def test_counts_far_above_the_number_of_events(self):
        for count in (7, 8, 60, 1000000, GREATEST - 1, GREATEST):
            self.assertEqual(last(ONE_AGAINST_SIX + [("robust", 9, count)]), [0])

    def test_no_first_recommendation(self):
        for calls in (store(3, [], []), store(3, [], [(0, 1)]), store(1, [], [(0, 10)]),
                      store(2, [(0, 1, 9)], [(0, 1), (1, 1)]), store(3, [(0, 1, 9)], [])):
            self.assertEqual(robust_at(calls, (0, 1, 7, GREATEST)), [[-33]] * 4)

    def test_a_member_that_does_not_exist(self):
        for calls in (TWO, store(3, [], [])):
            for member in (0, 8, 10, 1000001, GREATEST):
                self.assertEqual(robust_at(calls, (0, 1, GREATEST), member), [[-2]] * 3)


class ShapleyByHand(unittest.TestCase):
    def test_of_each_item(self):
        expected = ([2, 0, 1, 0, 1], [2, 0, 1, 0, 1], [2, 1, 1, 0, 1], [2, -1, 2, 1, 2])
        for item, answer in enumerate(expected):
            self.assertEqual(last(TWO + [("shapley", 9, item)]), answer)

    def test_without_events(self):
        for item in range(3):
            self.assertEqual(last(store(3, [(0, 1, 9)], []) + [("shapley", 9, item)]), [0])

    def test_one_event(self):
        calls = store(3, [(0, 1, 9), (0, 2, 8)], [(0, 1)])
        found = asked(calls, [("shapley", 9, item) for item in range(3)])
        self.assertEqual(found, [[1, 0, 1], [1, 1, 1], [1, 0, 1]])

    def test_no_event_leads_anywhere(self):
        self.assertEqual(last(store(1, [], [(0, 3)] * 3) + [("shapley", 9, 0)]), [3] + [0, 1] * 3)
        self.assertEqual(last(store(6, [], [(0, 3)] * 7) + [("shapley", 9, 4)]), [7] + [0, 1] * 7)

    def test_seven_events_alike(self):
        calls = store(2, [(0, 1, 50)], [(0, 1)] * 7)
        self.assertEqual(last(calls + [("shapley", 9, 1)]), [7] + [1, 7] * 7)

    def test_all_of_three_are_needed(self):
        self.assertEqual(last(ALL_THREE + [("shapley", 9, 4)]), [3, 1, 3, 1, 3, 1, 3])

    def test_one_against_six(self):
        # Item 1 leads with event 0 and at most two others: event 0 comes third at the latest in 3
        # of 7 orders, and the others share what is lost again. Item 2 leads in the other cases,
        # but for the empty set.
        found = asked(ONE_AGAINST_SIX, [("shapley", 9, 1), ("shapley", 9, 2), ("shapley", 9, 3)])
        self.assertEqual(found[0], [7, 3, 7] + [-1, 14] * 6)
        self.assertEqual(found[1], [7, -2, 7] + [3, 14] * 6)
        self.assertEqual(found[2], [7] + [0, 1] * 7)

    def test_the_item_of_an_event_is_never_the_first(self):
        # By event 1 alone item 0 would score most, but event 0 is concerned with it.
        calls = store(3, [(0, 1, 100), (1, 2, 10)], [(0, 1), (1, 1)])
        found = asked(calls, [("shapley", 9, item) for item in range(3)])
        self.assertEqual(found, [[2, 0, 1, 0, 1], [2, 0, 1, 0, 1], [2, 0, 1, 1, 1]])

    def test_what_does_not_exist(self):
        for calls in (TWO, store(4, [], [])):
            for member, item in ((8, 0), (9, 4), (8, 4), (GREATEST, 0), (9, GREATEST),
                                 (GREATEST, GREATEST)):
                self.assertEqual(last(calls + [("shapley", member, item)]), [-2])

    def test_asking_changes_nothing(self):
        questions = [("robust", 9, 1), ("shapley", 9, 2), ("events", 9), ("scores", 9)]
        found = play(TWO + questions + questions)
        self.assertEqual(found[-4:], found[-8:-4])


def any_store(chance, count):
    similar = [(one, other, chance.choice((0, 10, 20, 50, chance.randint(0, 100))))
               for one in range(6) for other in range(one)]
    kinds = chance.randint(1, 4)
    events = [(chance.randrange(kinds), chance.randint(1, 10)) for event in range(count)]
    return store(6, similar, events)


class AgainstTheWords(unittest.TestCase):
    def test_for_0_to_7_events(self):
        chance = Random(17)
        seen = {"below 0": 0, "fractions": 0, "robust": 0, "not robust": 0}
        for turn in range(160):
            calls = any_store(chance, turn % 8)
            calls += [("robust", 9, count) for count in (0, 1, 2, 3, 6, 7, 8)]
            calls += [("shapley", 9, item) for item in range(6)]
            found = play(calls)
            self.assertEqual(found, play_by_words(calls), calls)
            for answer in found[-6:]:
                seen["below 0"] += min(answer) < 0
                seen["fractions"] += max(answer[2::2], default=1) > 2
            for answer in found[-12:-10]:
                seen["robust"] += answer == [1]
                seen["not robust"] += answer == [0]
        # Lest the stores become too plain to tell anything.
        for name, times in seen.items():
            self.assertGreater(times, 20, name)

    def test_the_mean_of_all_orders(self):
        chance = Random(19)
        for turn in range(30):
            calls = any_store(chance, 5)
            words = Words()
            for call in calls:
                words.answer(*call)
            firsts = words.firsts(9)
            orders = list(permutations(range(5)))
            for item in range(6):
                gains = [0] * 5
                for order in orders:
                    for place, event in enumerate(order):
                        gains[event] += firsts[tuple(sorted(order[:place + 1]))] == item
                        gains[event] -= firsts[tuple(sorted(order[:place]))] == item
                values = [Fraction(gain, len(orders)) for gain in gains]
                expected = [number for value in values for number in value.as_integer_ratio()]
                self.assertEqual(last(calls + [("shapley", 9, item)]), [5] + expected)


if __name__ == "__main__":
    unittest.main()
