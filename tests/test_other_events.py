"""influence, needed_weight, what_if: rankings by other events than the member's own."""

import unittest
from itertools import combinations
from random import Random

from helper import GREATEST, asked, last, play, play_by_words, store

SIMILAR = [(0, 1, 50), (0, 2, 80), (1, 2, 30), (1, 3, 60), (3, 2, 10)]
TWO = store(4, SIMILAR, [(0, 2), (1, 1)])


class Influence(unittest.TestCase):
    def test_of_each_event(self):
        # All: 2, 3. Without event 0: 3, 2. Without event 1: 2 alone.
        found = asked(TWO, [("influence", 9, 0), ("influence", 9, 1)])
        self.assertEqual(found, [[3, 4, 2], [3, 3, 1]])

    def test_the_only_event(self):
        calls = store(4, [(0, 1, 5), (0, 3, 6)], [(0, 1)])
        self.assertEqual(last(calls + [("influence", 9, 0)]), [4, 0, 2])

    def test_nothing_to_recommend(self):
        for calls in (store(1, [], [(0, 1)] * 2), store(4, [], [(0, 1), (1, 1)])):
            for position in (0, 1):
                self.assertEqual(last(calls + [("influence", 9, position)]), [0, 0, 0])

    def test_nothing_moves(self):
        calls = store(4, [(0, 1, 5), (0, 3, 6)], [(0, 1), (0, 2), (0, 10)])
        for position in range(3):
            self.assertEqual(last(calls + [("influence", 9, position)]), [4, 4, 0])

    def test_one_that_leaves_moves_those_behind_it(self):
        # All: 1, 2, 3, 4. Without event 1 item 1 is gone, and the others are a place ahead.
        similar = [(5, 1, 100), (0, 2, 50), (0, 3, 40), (0, 4, 30)]
        calls = store(6, similar, [(0, 1), (5, 1)])
        self.assertEqual(last(calls + [("influence", 9, 1)]), [2, 3, 4])

    def test_some_stay_at_their_place(self):
        # All: 1, 2, 3, 4 with 90, 60, 55, 10. Without event 1: 1, 3, 2, 4.
        similar = [(0, 1, 90), (0, 2, 50), (0, 3, 55), (0, 4, 10), (5, 2, 10)]
        calls = store(6, similar, [(0, 1), (5, 1)])
        self.assertEqual(last(calls + [("influence", 9, 1)]), [2, 2, 2])

    def test_the_item_of_the_event_left_out_is_not_ranked(self):
        # By event 1 alone item 0 would score 100, but event 0 is concerned with it.
        calls = store(3, [(0, 1, 100), (1, 2, 10)], [(0, 1), (1, 1)])
        self.assertEqual(last(calls + [("influence", 9, 0)]), [3, 3, 0])

    def test_the_last_of_seven(self):
        calls = store(3, [(0, 1, 10), (2, 1, 1)], [(0, 1)] * 6 + [(2, 9)])
        self.assertEqual(asked(calls, [("influence", 9, 6), ("influence", 9, 7)]), [[2, 2, 0], [-2]])

    def test_what_does_not_exist(self):
        for member, position in ((9, 2), (9, GREATEST), (8, 0), (GREATEST, 0), (GREATEST, GREATEST)):
            self.assertEqual(last(TWO + [("influence", member, position)]), [-2])
        self.assertEqual(last(store(4, SIMILAR, []) + [("influence", 9, 0)]), [-2])


class NeededWeight(unittest.TestCase):
    def test_the_smallest_one(self):
        # Item 2 has 190 and 30 for each unit on item 1, item 3 has 60 and 60.
        self.assertEqual(last(TWO + [("needed_weight", 9, 1, 3)]), [5])

    def test_one_is_enough(self):
        self.assertEqual(last(TWO + [("needed_weight", 9, 0, 2)]), [1])
        self.assertEqual(last(TWO + [("needed_weight", 9, 1, 2)]), [1])

    def test_a_tie_is_enough_for_the_smaller_number(self):
        # The goal scores as much as its rival with the weight of 3.
        for goal, rival, weight in ((1, 2, 3), (2, 1, 4)):
            calls = store(4, [(0, rival, 60), (3, goal, 20)], [(0, 1)])
            self.assertEqual(last(calls + [("needed_weight", 9, 3, goal)]), [weight])

    def test_at_most_100(self):
        for goal, rival, rivals_score, answer in (
            (1, 2, 100, 100), (2, 1, 99, 100), (2, 1, 100, -33), (1, 2, 99, 99),
        ):
            calls = store(4, [(0, rival, rivals_score), (3, goal, 1)], [(0, 1)])
            self.assertEqual(last(calls + [("needed_weight", 9, 3, goal)]), [answer])

    def test_without_any_event(self):
        calls = store(4, [(0, 1, 50), (0, 2, 51), (3, 0, 1)], [])
        expected = {(0, 1): -33, (0, 2): 1, (3, 0): 1, (3, 1): -33, (1, 0): 1, (2, 0): 1}
        for (on, goal), answer in expected.items():
            self.assertEqual(last(calls + [("needed_weight", 9, on, goal)]), [answer], (on, goal))

    def test_with_seven_events(self):
        calls = store(4, [(0, 1, 10), (3, 2, 20)], [(0, 2)] * 7)
        found = play(calls + [("needed_weight", 9, 3, 2), ("add_event", 9, 3, 8), ("events", 9)])
        self.assertEqual(found[-3:], [[8], [-28], [7] + [0, 2] * 7])

    def test_the_item_of_the_further_event_is_not_ranked(self):
        # The item 2 leads; with a further event on it item 3 does.
        calls = store(4, [(0, 2, 100), (0, 3, 1)], [(0, 1)])
        found = asked(calls, [("needed_weight", 9, 2, 3), ("needed_weight", 9, 2, 2),
                              ("needed_weight", 9, 1, 2), ("needed_weight", 9, 1, 3)])
        self.assertEqual(found, [[1], [-33], [1], [-33]])

    def test_a_goal_with_an_event_is_not_ranked(self):
        for on in range(4):
            self.assertEqual(last(TWO + [("needed_weight", 9, on, 0)]), [-33])
            self.assertEqual(last(TWO + [("needed_weight", 9, on, 1)]), [-33])

    def test_no_score_no_recommendation(self):
        calls = store(3, [], [(0, 1)])
        self.assertEqual(last(calls + [("needed_weight", 9, 1, 2)]), [-33])
        self.assertEqual(last(store(1, [], []) + [("needed_weight", 9, 0, 0)]), [-33])

    def test_what_does_not_exist(self):
        for calls in (TWO, store(4, [], [])):
            for given in ((8, 1, 3), (9, 4, 3), (9, 1, 4), (9, 4, 4), (8, 4, 4), (GREATEST, 0, 0),
                          (9, GREATEST, 0), (9, 0, GREATEST)):
                self.assertEqual(last(calls + [("needed_weight",) + given]), [-2], given)


class WhatIf(unittest.TestCase):
    def test_by_each_set(self):
        questions = [("what_if", 9, chosen) for chosen in ([], [0], [1], [0, 1])]
        expected = [[0], [1, 2, 160], [2, 3, 60, 2, 30], [2, 2, 190, 3, 60]]
        self.assertEqual(asked(TWO, questions), expected)

    def test_by_all_events_it_is_what_is_recommended(self):
        calls = store(6, [(0, 3, 5), (1, 3, 6), (0, 5, 9), (2, 4, 40)],
                      [(0, 1), (1, 2), (2, 3), (0, 4), (1, 5), (2, 6), (0, 7)])
        found = asked(calls, [("what_if", 9, [0, 1, 2, 3, 4, 5, 6]), ("recommend", 9, 6)])
        self.assertEqual(found[0], found[1])
        self.assertEqual(found[0], [3, 4, 360, 5, 108, 3, 102])

    def test_items_of_other_events_are_not_ranked(self):
        calls = store(3, [(0, 1, 100), (1, 2, 10)], [(0, 1), (1, 1)])
        self.assertEqual(last(calls + [("what_if", 9, [1])]), [1, 2, 10])

    def test_without_events(self):
        calls = store(4, SIMILAR, [])
        questions = [("what_if", 9, []), ("what_if", 9, [0]), ("what_if", 9, [GREATEST])]
        self.assertEqual(asked(calls, questions), [[0], [-22], [-22]])

    def test_every_list_of_up_to_three(self):
        calls = store(4, SIMILAR, [(0, 2), (1, 1), (0, 5)])
        lists = [[]] + [[one] for one in range(5)]
        lists += [[one, two] for one in range(5) for two in range(5)]
        lists += [[one, two, three] for one in range(4) for two in range(4) for three in range(4)]
        allowed = [list(chosen) for size in range(4) for chosen in combinations(range(3), size)]
        found = asked(calls, [("what_if", 9, chosen) for chosen in lists])
        for chosen, answer in zip(lists, found):
            self.assertEqual(answer == [-22], chosen not in allowed, chosen)

    def test_positions_outside_their_limits(self):
        full = store(4, SIMILAR, [(0, 1)] * 7)
        for chosen in ([7], [0, 0], [1, 0], [6, 6], [0, 1, 2, 3, 4, 5, 6, 7], [0, 1, 2, 3, 4, 5, 6, 6],
                       [GREATEST], [0, GREATEST], [0] * 24, list(range(24)), list(range(6, -1, -1)),
                       [0, 1, 2, 3, 4, 6, 5], [GREATEST] * 24):
            self.assertEqual(last(full + [("what_if", 9, chosen)]), [-22], chosen)
            # That the member doesn't exist comes first.
            self.assertEqual(last(full + [("what_if", 8, chosen)]), [-2], chosen)

    def test_a_member_that_does_not_exist(self):
        for member in (0, 8, 10, GREATEST):
            for chosen in ([], [0], [0, 1], [5]):
                self.assertEqual(last(TWO + [("what_if", member, chosen)]), [-2])

    def test_a_row_takes_nothing_from_the_calls_behind_it(self):
        calls = TWO + [("what_if", 9, [0] * 24), ("what_if", 9, []), ("what_if", 9, [1]), ("status",)]
        self.assertEqual(play(calls)[-4:], [[-22], [0], [2, 3, 60, 2, 30], [4, 1, 2]])


class AskingChangesNothing(unittest.TestCase):
    def test_all_three(self):
        questions = [("influence", 9, 0), ("needed_weight", 9, 1, 3), ("needed_weight", 9, 1, 0),
                     ("what_if", 9, [1]), ("events", 9), ("recommend", 9, 9), ("status",)]
        found = play(TWO + questions + questions)
        self.assertEqual(found[-7:], found[-14:-7])
        self.assertEqual(found[-3:], [[2, 0, 2, 1, 1], [2, 2, 190, 3, 60], [4, 1, 2]])


class AgainstTheWords(unittest.TestCase):
    def test_for_0_to_7_events(self):
        chance = Random(23)
        seen = {"moved": 0, "other first": 0, "weights": 0, "no weight": 0}
        for turn in range(160):
            items = chance.randint(3, 6)
            similar = [(one, other, chance.choice((0, 10, 20, 50, chance.randint(0, 100))))
                       for one in range(items) for other in range(one)]
            kinds = chance.randint(1, items - 1)
            events = [(chance.randrange(kinds), chance.randint(1, 10)) for event in range(turn % 8)]
            calls = store(items, similar, events)
            calls += [("influence", 9, position) for position in range(8)]
            weights = [("needed_weight", 9, chance.randrange(items), chance.randrange(items))
                       for time in range(15)]
            calls += weights
            calls += [("what_if", 9, sorted(chance.sample(range(7), chance.randint(0, 4))))
                      for time in range(10)]
            found = play(calls)
            for call, answer, expected in zip(calls, found, play_by_words(calls)):
                self.assertEqual(answer, expected, (call, calls))
                if call[0] == "influence" and len(answer) == 3:
                    seen["moved"] += answer[2] > 1
                    seen["other first"] += answer[0] != answer[1] > 0
                if call[0] == "needed_weight":
                    seen["weights"] += answer[0] > 1
                    seen["no weight"] += answer[0] == -33
        # Lest the stores become too plain to tell anything.
        for name, times in seen.items():
            self.assertGreater(times, 20, name)


if __name__ == "__main__":
    unittest.main()
