"""delete_member: its count and its two roots, by the words for the hash tree."""

import unittest

from helper import GREATEST, filled, fnv, last, number_hash, play, root_by_words

EVENTS = {
    500: [],
    3: [(0, 1)],
    1000000: [(1, 10), (0, 2)],
    0: [(2, 3)] * 7,
    77: [(5, 4), (4, 5), (3, 6)],
    76: [(1, 1)],
}


class TheWordsThemselves(unittest.TestCase):
    def test_known_hashes(self):
        self.assertEqual(fnv(b""), 0xCBF29CE484222325)
        self.assertEqual(fnv(b"a"), 0xAF63DC4C8601EC8C)
        self.assertEqual(fnv(b"foobar"), 0x85944171F73967E8)
        self.assertEqual(number_hash([0x102]), fnv(b"\x02\x01\0\0\0\0\0\0"))


class TwoRoots(unittest.TestCase):
    def test_for_one_to_six_members(self):
        for size in range(1, 7):
            members = {member: EVENTS[member] for member in list(EVENTS)[:size]}
            for gone in members:
                others = {member: members[member] for member in members if member != gone}
                expected = [len(members[gone])] + root_by_words(members) + root_by_words(others)
                self.assertEqual(last(filled(members) + [("delete_member", gone)]), expected)

    def test_the_last_member(self):
        empty = list(divmod(fnv(b"\0" * 8), 1 << 32))
        found = last([("create", 1), ("add_member", 5), ("delete_member", 5)])
        leaf = fnv(b"\x01" + b"\0" * 7 + b"\x05" + b"\0" * 7 + b"\0" * 8)
        self.assertEqual(found, [0] + list(divmod(leaf, 1 << 32)) + empty)

    def test_all_one_by_one(self):
        gone = [77, 0, 1000000, 76, 3, 500]
        found = play(filled(EVENTS) + [("delete_member", member) for member in gone])[-6:]
        self.assertEqual([answer[0] for answer in found], [3, 7, 2, 1, 1, 0])
        for before, after in zip(found, found[1:]):
            self.assertEqual(before[3:], after[1:3])

    def test_the_order_of_adding_does_not_matter(self):
        backwards = {member: EVENTS[member] for member in reversed(list(EVENTS))}
        one = last(filled(EVENTS) + [("delete_member", 77)])
        self.assertEqual(last(filled(backwards) + [("delete_member", 77)]), one)

    def test_similarities_do_not_matter(self):
        calls = filled(EVENTS)
        other = calls + [("set_similarity", 0, 1, 9), ("delete_member", 0)]
        self.assertEqual(last(other), last(calls + [("delete_member", 0)]))

    def test_each_part_of_an_event_matters(self):
        roots = []
        for events in ([(0, 1)], [(1, 1)], [(0, 2)], [(0, 1), (0, 1)], [(0, 1), (1, 2)],
                       [(1, 2), (0, 1)]):
            roots.append(last(filled({4: events}) + [("delete_member", 4)])[1:3])
        roots.append(last(filled({5: [(0, 1)]}) + [("delete_member", 5)])[1:3])
        self.assertEqual(len({tuple(root) for root in roots}), len(roots))


class AsIfTheMemberHadNeverBeenThere(unittest.TestCase):
    def test_the_root_is_the_one_before(self):
        for size in range(6):
            kept = {member: EVENTS[member] for member in list(EVENTS)[:size]}
            root = root_by_words(kept)
            for member in (1, 400, 999999):
                for events in ([], [(0, 1)], [(5, 10)] * 7):
                    calls = filled(kept) + [("add_member", member)]
                    calls += [("add_event", member) + event for event in events]
                    found = last(calls + [("delete_member", member)])
                    self.assertEqual([found[0]] + found[3:], [len(events)] + root)

    def test_nothing_of_the_member_is_left(self):
        calls = filled(EVENTS) + [("delete_member", 0), ("events", 0), ("scores", 0),
                                  ("add_member", 0), ("events", 0), ("events", 76)]
        self.assertEqual(play(calls)[-5:], [[-2], [-2], [6], [0], [1, 1, 1]])

    def test_a_removed_event_leaves_nothing(self):
        calls = [("create", 6), ("add_member", 3), ("add_event", 3, 0, 1)]
        more = calls + [("add_event", 3, 2, 9), ("remove_event", 3, 1), ("delete_member", 3)]
        self.assertEqual(last(more), last(calls + [("delete_member", 3)]))


class Refusals(unittest.TestCase):
    def test_a_member_that_does_not_exist(self):
        for member in (1, 2, 501, 1000001, GREATEST):
            found = play(filled(EVENTS) + [("delete_member", member), ("delete_member", 3)])
            whole = last(filled(EVENTS) + [("delete_member", 3)])
            self.assertEqual(found[-2:], [[-2], whole])

    def test_not_twice(self):
        found = play(filled(EVENTS) + [("delete_member", 3), ("delete_member", 3)])
        self.assertEqual(found[-1], [-2])


if __name__ == "__main__":
    unittest.main()
