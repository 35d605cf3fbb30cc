"""absence and status: what they answer and refuse."""

import unittest

from helper import GREATEST, asked, filled, last, play

THREE = [("create", 4), ("add_member", 500), ("add_member", 7), ("add_member", 1000000)]


class Absence(unittest.TestCase):
    def test_the_members_on_both_sides(self):
        expected = {0: [0, 8], 6: [0, 8], 8: [8, 501], 499: [8, 501], 501: [501, 1000001],
                    999999: [501, 1000001]}
        for member, sides in expected.items():
            self.assertEqual(last(THREE + [("absence", member)]), [0] + sides, member)

    def test_numbers_above_those_that_members_can_have(self):
        for member in (1000001, 1000002, 1 << 31, GREATEST):
            self.assertEqual(last(THREE + [("absence", member)]), [0, 1000001, 0])
            self.assertEqual(last([("create", 1), ("absence", member)]), [0, 0, 0])
            self.assertEqual(last([("create", 1), ("add_member", 0), ("absence", member)]), [0, 1, 0])

    def test_without_members(self):
        for member in (0, 1, 5, 1000000):
            self.assertEqual(last([("create", 1), ("absence", member)]), [0, 0, 0])

    def test_the_member_0(self):
        calls = [("create", 1), ("add_member", 0), ("add_member", 2)]
        self.assertEqual(last(calls + [("absence", 1)]), [0, 1, 3])
        self.assertEqual(last(calls + [("absence", 3)]), [0, 3, 0])
        self.assertEqual(last(calls[:1] + calls[2:] + [("absence", 0)]), [0, 0, 3])

    def test_six_members(self):
        members = (50, 10, 60, 20, 40, 30)
        start = [("create", 1)] + [("add_member", member) for member in members]
        for member in range(5, 70):
            below = max([other + 1 for other in members if other < member], default=0)
            above = min([other + 1 for other in members if other > member], default=0)
            expected = [-17] if member in members else [0, below, above]
            self.assertEqual(last(start + [("absence", member)]), expected)

    def test_a_member_that_is_there(self):
        for member in (7, 500, 1000000):
            self.assertEqual(last(THREE + [("absence", member)]), [-17])

    def test_a_member_that_went(self):
        calls = THREE + [("delete_member", 500), ("absence", 500), ("absence", 7)]
        self.assertEqual(play(calls)[-2:], [[0, 8, 1000001], [-17]])


class Status(unittest.TestCase):
    def test_a_new_store(self):
        for items in range(1, 7):
            self.assertEqual(last([("create", items), ("status",)]), [items, 0, 0])

    def test_events_of_all_members(self):
        members = {3: [(0, 1)], 0: [], 8: [(5, 10)] * 7, 5: [(1, 2), (3, 4)]}
        self.assertEqual(last(filled(members) + [("status",)]), [6, 4, 10])

    def test_the_most(self):
        members = {member: [(member, 1)] * 7 for member in range(6)}
        self.assertEqual(last(filled(members) + [("status",)]), [6, 6, 42])

    def test_after_each_change(self):
        changes = [("create", 3), ("add_member", 1), ("add_event", 1, 0, 1), ("add_event", 1, 0, 1),
                   ("add_member", 4), ("add_event", 4, 2, 5), ("set_similarity", 0, 1, 5),
                   ("remove_event", 1, 0), ("delete_member", 4), ("add_event", 4, 0, 1),
                   ("create", 7), ("create", 2)]
        calls = [call for change in changes for call in (change, ("status",))]
        expected = [[3, 0, 0], [3, 1, 0], [3, 1, 1], [3, 1, 2], [3, 2, 2], [3, 2, 3], [3, 2, 3],
                    [3, 2, 2], [3, 1, 1], [3, 1, 1], [3, 1, 1], [2, 0, 0]]
        self.assertEqual(play(calls)[1::2], expected)


class AskingChangesNothing(unittest.TestCase):
    def test_both(self):
        questions = [("absence", 9), ("absence", 7), ("absence", GREATEST), ("status",), ("root",)]
        found = asked(THREE, questions * 5)
        self.assertEqual(found, found[:5] * 5)


if __name__ == "__main__":
    unittest.main()
