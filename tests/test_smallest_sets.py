"""removal_set and sufficient_set, by hand and against the plain words."""

import unittest
from random import Random

from helper import GREATEST, last, play, play_by_words, sets_by_words, store


BALANCED = [(0, 4, 60), (1, 4, 60), (2, 4, 60), (0, 5, 100), (1, 5, 70),
            (0, 3, 21), (1, 3, 21), (2, 3, 100)]


def both(calls):
    return play(calls + [("removal_set", 9), ("sufficient_set", 9)])[-2:]


class ByHand(unittest.TestCase):
    def test_one_event(self):
        self.assertEqual(both(store(2, [(0, 1, 1)], [(0, 1)])), [[1, 0, 0], [1, 0]])

    def test_all_events_must_go_but_any_one_is_enough(self):
        calls = store(2, [(0, 1, 50)], [(0, 1)] * 7)
        self.assertEqual(both(calls), [[7, 0, 1, 2, 3, 4, 5, 6, 0], [1, 0]])

    def test_all_events_are_needed(self):
        # Item 4 is second by each event and by each pair, and first by all three.
        calls = store(6, BALANCED, [(0, 1), (1, 1), (2, 1)])
        self.assertEqual(both(calls), [[1, 0, 4], [3, 0, 1, 2]])

    def test_two_must_go_the_first_such_pair(self):
        # Without any two of the three light events item 1 loses to item 2.
        similar = [(0, 1, 50), (3, 2, 70)]
        calls = store(4, similar, [(3, 1), (0, 1), (0, 1), (0, 1)])
        self.assertEqual(both(calls), [[2, 1, 2, 3], [1, 1]])

    def test_a_smaller_set_goes_before_one_that_begins_earlier(self):
        similar = [(0, 1, 10), (3, 1, 60), (0, 2, 9), (3, 2, 10)]
        calls = store(4, similar, [(0, 1), (0, 1), (3, 1)])
        # Without 2 item 1 still leads by 20 to 18: all must go.
        self.assertEqual(both(calls), [[3, 0, 1, 2, 0], [1, 0]])
        calls += [("set_similarity", 0, 2, 15)]
        # Without 2 item 2 leads by 30 to 20, and neither 0 nor 1 alone leads to item 1.
        self.assertEqual(both(calls), [[1, 2, 3], [1, 2]])

    def test_the_item_of_an_event_left_out_is_no_recommendation(self):
        # By event 1 alone item 0 would score 100, but event 0 is concerned with it.
        similar = [(0, 1, 100), (0, 2, 90), (1, 2, 10), (1, 3, 20)]
        calls = store(4, similar, [(0, 1), (1, 1)])
        self.assertEqual(both(calls), [[1, 0, 4], [1, 0]])

    def test_the_item_of_an_event_left_out_does_not_stand_in_the_way(self):
        # By event 1 alone item 0 would score more than item 2.
        similar = [(0, 1, 100), (1, 2, 10)]
        calls = store(3, similar, [(0, 1), (1, 1)])
        self.assertEqual(both(calls), [[1, 1, 0], [1, 1]])

    def test_a_tie_decides(self):
        # By all events items 1 and 2 tie; without event 1 item 2 leads.
        similar = [(0, 2, 30), (3, 1, 30)]
        calls = store(4, similar, [(0, 1), (3, 1)])
        self.assertEqual(both(calls), [[1, 1, 3], [1, 1]])

    def test_refusals(self):
        for name in ("removal_set", "sufficient_set"):
            for events in ([], [(0, 1)], [(1, 10)] * 7):
                self.assertEqual(last(store(3, [], events) + [(name, 9)]), [-33])
                for member in (0, 8, GREATEST):
                    self.assertEqual(last(store(3, [], events) + [(name, member)]), [-2])
            self.assertEqual(last(store(1, [], [(0, 10)]) + [(name, 9)]), [-33])

    def test_asking_changes_nothing(self):
        calls = store(4, [(0, 1, 50), (3, 2, 70)], [(3, 1), (0, 1), (0, 1), (0, 1)])
        asked = [("removal_set", 9), ("sufficient_set", 9), ("events", 9), ("scores", 9)]
        found = play(calls + asked + asked)
        self.assertEqual(found[-4:], found[-8:-4])


class SetsInOrder(unittest.TestCase):
    def test_the_order_the_words_tell(self):
        expected = [[], [0], [1], [2], [0, 1], [0, 2], [1, 2], [0, 1, 2]]
        self.assertEqual(sets_by_words(3), expected)


def any_similarities(chance):
    return [(one, other, chance.choice((0, 10, 20, 50, chance.randint(0, 100))))
            for one in range(6) for other in range(one)]


def nearly_balanced(chance):
    return [(one, other, max(0, min(100, value + chance.randint(-3, 3))))
            for one, other, value in BALANCED]


class AgainstTheWords(unittest.TestCase):
    def test_for_0_to_7_events(self):
        chance = Random(11)
        seen = {"other": 0, "none": 0, "large removal": 0, "large sufficient": 0, "-33": 0}
        for turn in range(480):
            if turn % 3 == 0:
                kinds, most, similar = 3, 2, nearly_balanced(chance)
            else:
                kinds, most, similar = chance.randint(1, 4), 10, any_similarities(chance)
            events = [(chance.randrange(kinds), chance.randint(1, most)) for at in range(turn % 8)]
            calls = store(6, similar, events) + [("removal_set", 9), ("sufficient_set", 9)]
            found = play(calls)
            self.assertEqual(found, play_by_words(calls), calls)
            removal, sufficient = found[-2:]
            seen["-33"] += removal == [-33]
            seen["other"] += removal[-1] > 0
            seen["none"] += removal[-1] == 0
            seen["large removal"] += removal[0] > 2
            seen["large sufficient"] += sufficient[0] > 2
        # Lest the lists of calls become too plain to tell anything.
        for name, times in seen.items():
            self.assertGreater(times, 3, name)


if __name__ == "__main__":
    unittest.main()
