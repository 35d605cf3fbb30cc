"""set_similarity, add_member, add_event, remove_event, events: what they answer and refuse."""

import unittest
from itertools import permutations

from helper import GREATEST, last, play

SIX = [("create", 6)] + [("add_member", member) for member in (50, 10, 60, 20, 40, 30)]


class SetSimilarity(unittest.TestCase):
    def test_the_previous_one_is_answered(self):
        calls = [("create", 3), ("set_similarity", 0, 1, 100), ("set_similarity", 0, 1, 0),
                 ("set_similarity", 0, 1, 33), ("set_similarity", 0, 1, 33),
                 ("set_similarity", 0, 2, 1), ("set_similarity", 0, 1, 2)]
        self.assertEqual(play(calls), [[0], [0], [100], [0], [33], [0], [33]])

    def test_symmetric(self):
        for first, second in permutations(range(6), 2):
            calls = [("create", 6), ("set_similarity", first, second, 71), ("add_member", 0),
                     ("add_event", 0, first, 1), ("contributions", 0, second),
                     ("remove_event", 0, 0), ("add_event", 0, second, 1),
                     ("contributions", 0, first), ("set_similarity", second, first, 5),
                     ("set_similarity", first, second, 6)]
            found = play(calls)
            self.assertEqual([found[4], found[7]], [[1, 71], [1, 71]])
            self.assertEqual(found[-2:], [[71], [5]])

    def test_an_item_and_itself(self):
        for item in range(6):
            calls = [("create", 6), ("add_member", 0), ("add_event", 0, item, 1)]
            self.assertEqual(last(calls + [("contributions", 0, item)]), [1, 100])

    def test_items_that_do_not_exist(self):
        for first, second in ((2, 0), (0, 2), (2, 2), (2, 3), (GREATEST, 0), (0, GREATEST),
                              (GREATEST, GREATEST)):
            for value in (0, 100, 101, GREATEST):
                calls = [("create", 2), ("set_similarity", first, second, value)]
                self.assertEqual(last(calls), [-2], calls)

    def test_arguments_outside_their_limits(self):
        for given in ((0, 0, 5), (1, 1, 101), (0, 1, 101), (1, 0, GREATEST), (1, 1, 100)):
            calls = [("create", 2), ("set_similarity", 0, 1, 9), ("set_similarity",) + given,
                     ("set_similarity", 0, 1, 8)]
            self.assertEqual(play(calls)[2:], [[-22], [9]], given)

    def test_a_store_of_one_item_has_no_pair(self):
        self.assertEqual(last([("create", 1), ("set_similarity", 0, 0, 1)]), [-22])
        self.assertEqual(last([("create", 1), ("set_similarity", 0, 1, 1)]), [-2])


class AddMember(unittest.TestCase):
    def test_the_number_of_members(self):
        self.assertEqual(play(SIX), [[0], [1], [2], [3], [4], [5], [6]])

    def test_numbers_to_the_limit(self):
        calls = [("create", 1), ("add_member", 1000000), ("add_member", 0), ("events", 1000000)]
        self.assertEqual(play(calls), [[0], [1], [2], [0]])

    def test_too_great_a_number(self):
        for member in (1000001, GREATEST):
            self.assertEqual(play([("create", 1), ("add_member", member), ("events", member)]),
                             [[0], [-22], [-2]])

    def test_a_number_that_is_there(self):
        self.assertEqual(last([("create", 1), ("add_member", 3), ("add_member", 3)]), [-17])

    def test_a_seventh_member(self):
        self.assertEqual(play(SIX + [("add_member", 70), ("events", 70)])[-2:], [[-28], [-2]])

    def test_order_of_refusals_with_six_members(self):
        self.assertEqual(last(SIX + [("add_member", 1000001)]), [-22])
        self.assertEqual(last(SIX + [("add_member", 30)]), [-17])

    def test_room_again_after_a_deletion(self):
        calls = SIX + [("delete_member", 40), ("add_member", 41), ("add_member", 42)]
        self.assertEqual(play(calls)[-2:], [[6], [-28]])


class AddEvent(unittest.TestCase):
    def setUp(self):
        self.start = [("create", 3), ("add_member", 4)]

    def test_positions_and_events(self):
        added = [(0, 1), (2, 10), (0, 1), (1, 5), (1, 6), (2, 2), (0, 9)]
        calls = self.start + [("add_event", 4) + event for event in added] + [("events", 4)]
        found = play(calls)
        self.assertEqual(found[2:9], [[0], [1], [2], [3], [4], [5], [6]])
        self.assertEqual(found[9], [7] + [number for event in added for number in event])

    def test_an_eighth_event(self):
        full = self.start + [("add_event", 4, 0, 1)] * 7
        calls = full + [("add_event", 4, 1, 1), ("events", 4)]
        self.assertEqual(play(calls)[-2:], [[-28], [7] + [0, 1] * 7])
        for item, weight, code in ((1, 0, -22), (1, 11, -22), (3, 1, -2), (3, 0, -2)):
            self.assertEqual(last(full + [("add_event", 4, item, weight)]), [code])
        self.assertEqual(last(full + [("add_event", 5, 0, 1)]), [-2])

    def test_weights(self):
        for weight, answer in ((0, -22), (1, 0), (10, 0), (11, -22), (GREATEST, -22)):
            self.assertEqual(last(self.start + [("add_event", 4, 2, weight)]), [answer])

    def test_what_does_not_exist(self):
        for member, item in ((3, 0), (4, 3), (3, 3), (GREATEST, 0), (4, GREATEST)):
            for weight in (0, 1, 11, GREATEST):
                self.assertEqual(last(self.start + [("add_event", member, item, weight)]), [-2])

    def test_a_refused_event_is_not_there(self):
        refused = [("add_event", 4, 0, 11), ("add_event", 4, 3, 1), ("add_event", 5, 0, 1)]
        calls = self.start + [("add_event", 4, 1, 2)] + refused + [("events", 4)]
        self.assertEqual(last(calls), [1, 1, 2])

    def test_members_have_their_own_events(self):
        calls = self.start + [("add_member", 2), ("add_event", 4, 1, 2), ("add_event", 2, 0, 3),
                              ("events", 4), ("events", 2)]
        self.assertEqual(play(calls)[-4:], [[0], [0], [1, 1, 2], [1, 0, 3]])


class RemoveEvent(unittest.TestCase):
    def setUp(self):
        self.start = [("create", 3), ("add_member", 4), ("add_event", 4, 0, 1),
                      ("add_event", 4, 1, 2), ("add_event", 4, 2, 3)]

    def test_later_positions_decrease(self):
        for position, left in ((0, [1, 2, 2, 3]), (1, [0, 1, 2, 3]), (2, [0, 1, 1, 2])):
            calls = self.start + [("remove_event", 4, position), ("events", 4)]
            self.assertEqual(play(calls)[-2:], [[2], [2] + left])

    def test_until_none_is_left(self):
        calls = self.start + [("remove_event", 4, 0)] * 4 + [("events", 4), ("add_event", 4, 1, 1)]
        self.assertEqual(play(calls)[-6:], [[2], [1], [0], [-2], [0], [0]])

    def test_what_does_not_exist(self):
        for member, position in ((4, 3), (4, GREATEST), (5, 0), (GREATEST, GREATEST)):
            calls = self.start + [("remove_event", member, position), ("events", 4)]
            self.assertEqual(play(calls)[-2:], [[-2], [3, 0, 1, 1, 2, 2, 3]])


class Events(unittest.TestCase):
    def test_a_member_without_events(self):
        self.assertEqual(last([("create", 3), ("add_member", 4), ("events", 4)]), [0])

    def test_a_member_that_does_not_exist(self):
        for member in (0, 3, 5, GREATEST):
            self.assertEqual(last([("create", 3), ("add_member", 4), ("events", member)]), [-2])


if __name__ == "__main__":
    unittest.main()
