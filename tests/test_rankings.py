"""scores, recommend, contributions, margin: what they answer and refuse."""

import unittest

from helper import GREATEST, last, play, store


SIMILAR = [(0, 1, 50), (0, 2, 80), (1, 2, 30), (1, 3, 60), (3, 2, 10)]
TWO = store(4, SIMILAR, [(0, 2), (1, 1)])


class Scores(unittest.TestCase):
    def test_all_items_have_one(self):
        self.assertEqual(last(TWO + [("scores", 9)]), [4, 250, 200, 190, 60])

    def test_without_events(self):
        for items in (1, 6):
            self.assertEqual(last(store(items, [], []) + [("scores", 9)]), [items] + [0] * items)

    def test_the_greatest(self):
        calls = store(2, [(0, 1, 100)], [(0, 10)] * 7)
        self.assertEqual(last(calls + [("scores", 9)]), [2, 7000, 7000])

    def test_similarities_set_later_count(self):
        calls = TWO + [("set_similarity", 2, 0, 0), ("scores", 9)]
        self.assertEqual(last(calls), [4, 250, 200, 30, 60])

    def test_a_member_that_does_not_exist(self):
        for member in (0, 8, GREATEST):
            self.assertEqual(last(TWO + [("scores", member)]), [-2])


class Contributions(unittest.TestCase):
    def test_of_each_event(self):
        expected = ([2, 200, 50], [2, 100, 100], [2, 160, 30], [2, 0, 60])
        for item, answer in enumerate(expected):
            self.assertEqual(last(TWO + [("contributions", 9, item)]), answer)

    def test_they_add_up_to_the_score(self):
        calls = TWO + [("add_event", 9, 3, 7), ("add_event", 9, 0, 10), ("scores", 9)]
        found = play(calls + [("contributions", 9, item) for item in range(4)])
        self.assertEqual([sum(answer[1:]) for answer in found[-4:]], found[-5][1:])

    def test_without_events(self):
        self.assertEqual(last(store(2, [], []) + [("contributions", 9, 1)]), [0])

    def test_what_does_not_exist(self):
        for member, item in ((8, 0), (9, 4), (8, 4), (GREATEST, 0), (9, GREATEST)):
            self.assertEqual(last(TWO + [("contributions", member, item)]), [-2])


class Recommend(unittest.TestCase):
    def test_the_first_count_items(self):
        for count, answer in ((0, [0]), (1, [1, 2, 190]), (2, [2, 2, 190, 3, 60]),
                              (3, [2, 2, 190, 3, 60]), (GREATEST, [2, 2, 190, 3, 60])):
            self.assertEqual(last(TWO + [("recommend", 9, count)]), answer)

    def test_ties_go_to_the_smaller_number(self):
        similar = [(3, 5, 40), (3, 1, 40), (3, 4, 41), (3, 0, 40), (3, 2, 39)]
        calls = store(6, similar, [(3, 1)]) + [("recommend", 9, 6)]
        self.assertEqual(last(calls), [5, 4, 41, 0, 40, 1, 40, 5, 40, 2, 39])

    def test_a_score_of_0_is_not_ranked(self):
        similar = [(0, 1, 0), (0, 2, 1)]
        self.assertEqual(last(store(4, similar, [(0, 1)]) + [("recommend", 9, 6)]), [1, 2, 1])

    def test_items_of_events_are_not_ranked(self):
        similar = [(0, 1, 100), (0, 2, 5)]
        calls = store(3, similar, [(0, 10), (1, 1)])
        self.assertEqual(last(calls + [("recommend", 9, 6)]), [1, 2, 50])
        calls += [("remove_event", 9, 1), ("recommend", 9, 6)]
        self.assertEqual(last(calls), [2, 1, 1000, 2, 50])

    def test_events_of_others_do_not_matter(self):
        calls = TWO + [("add_member", 5), ("add_event", 5, 2, 1), ("recommend", 9, 6)]
        self.assertEqual(last(calls), [2, 2, 190, 3, 60])

    def test_nothing_to_recommend(self):
        self.assertEqual(last(store(4, SIMILAR, []) + [("recommend", 9, 6)]), [0])
        self.assertEqual(last(store(1, [], [(0, 10)]) + [("recommend", 9, 6)]), [0])
        self.assertEqual(last(store(3, [], [(0, 10)]) + [("recommend", 9, 6)]), [0])

    def test_a_member_that_does_not_exist(self):
        for member in (0, 10, GREATEST):
            for count in (0, 1, GREATEST):
                self.assertEqual(last(TWO + [("recommend", member, count)]), [-2])


class Margin(unittest.TestCase):
    def test_first_less_second(self):
        self.assertEqual(last(TWO + [("margin", 9)]), [130])

    def test_a_tie_has_none(self):
        calls = store(4, [(0, 1, 20), (0, 3, 20), (0, 2, 19)], [(0, 3)])
        self.assertEqual(last(calls + [("margin", 9)]), [0])

    def test_without_a_second_item(self):
        calls = store(3, [(0, 1, 100), (0, 2, 20)], [(0, 3), (1, 1)])
        self.assertEqual(last(calls + [("margin", 9)]), [60])

    def test_refusals(self):
        self.assertEqual(last(store(3, [], []) + [("margin", 9)]), [-33])
        self.assertEqual(last(store(3, [], [(0, 1)]) + [("margin", 9)]), [-33])
        self.assertEqual(last(store(1, [], [(0, 1)]) + [("margin", 9)]), [-33])
        for member in (0, 8, GREATEST):
            self.assertEqual(last(store(3, [], []) + [("margin", member)]), [-2])


if __name__ == "__main__":
    unittest.main()
