"""How calls stand in the list that is handed in, and answers in the list that is given back."""

import unittest

from forgetproof.reasons import answers, read_calls
from helper import CALLS, GREATEST, last, play, written

EXAMPLE = [
    (("create", 4), [0]),
    (("set_similarity", 0, 1, 50), [0]),
    (("set_similarity", 0, 2, 80), [0]),
    (("set_similarity", 1, 2, 30), [0]),
    (("set_similarity", 1, 3, 60), [0]),
    (("set_similarity", 3, 2, 10), [0]),
    (("add_member", 7), [1]),
    (("add_event", 7, 0, 2), [0]),
    (("add_event", 7, 1, 1), [1]),
    (("scores", 7), [4, 250, 200, 190, 60]),
    (("recommend", 7, 5), [2, 2, 190, 3, 60]),
    (("contributions", 7, 2), [2, 160, 30]),
    (("margin", 7), [130]),
    (("removal_set", 7), [1, 0, 4]),
    (("sufficient_set", 7), [1, 0]),
    (("robust", 7, 0), [1]),
    (("robust", 7, 1), [0]),
    (("shapley", 7, 2), [2, 1, 1, 0, 1]),
    (("shapley", 7, 3), [2, -1, 2, 1, 2]),
    (("influence", 7, 0), [3, 4, 2]),
    (("needed_weight", 7, 1, 3), [5]),
    (("what_if", 7, [1]), [2, 3, 60, 2, 30]),
    (("proof", 7), [0]),
    (("absence", 5), [0, 0, 8]),
    (("absence", 7), [-17]),
    (("remove_event", 7, 1), [1]),
    (("events", 7), [1, 0, 2]),
    (("check_proof", 0, 1, 0, 1, []), [1]),
    (("check_proof", 0, 1, 0, 2, []), [0]),
    (("check_proof", 0, 1, 0, 2, [2, 0, 0]), [-22]),
    (("set_similarity", 1, 1, 5), [-22]),
    (("add_event", 7, 9, 1), [-2]),
    (("status",), [4, 1, 1]),
]

# With these every call is there.
EVERY = [call for call, result in EXAMPLE] + [
    ("root",), ("leaf", 7), ("root_without", 7), ("check_proof", 1, 2, 3, 4, [0, 1, 2] * 8),
    ("what_if", 7, [0] * 24), ("delete_member", 7),
]

# Every call, with the least numbers that can be handed in with it and with the greatest.
COUNTS = (1, 3, 1, 1, 3, 2, 1, 1, 2, 2, 1, 1, 1, 2, 2, 2, 3, 1, 0, 1, 1, 4, 1, 1, 0)
WITH_ROW = ("what_if", "check_proof")


def filled(name, value, row):
    numbers = (value,) * COUNTS[CALLS.index(name)]
    return (name,) + numbers + ((row,) if name in WITH_ROW else ())


class Untouched(list):
    """A list that tells at once when something would change it."""

    def refuse(self, *given):
        raise AssertionError("what was handed in would be changed")

    __setitem__ = __delitem__ = __iadd__ = __imul__ = refuse
    append = extend = insert = pop = remove = clear = sort = reverse = refuse


class TheExample(unittest.TestCase):
    def test_results(self):
        found = play([call for call, result in EXAMPLE])
        for (call, result), answer in zip(EXAMPLE, found):
            self.assertEqual(answer, result, call)

    def test_numbers_as_they_stand(self):
        handed = [0, 2, 1, 0, 1, 50, 2, 7, 4, 7, 0, 2, 8, 7, 5, 10, 8, 6, 7]
        self.assertEqual(answers(handed), [1, 0, 1, 0, 1, 1, 1, 0, 3, 1, 1, 100, 1, -2, 3, 1, 0, 2])


class TheLists(unittest.TestCase):
    def test_one_refusal_is_its_number_alone(self):
        self.assertEqual(answers([6, 0]), [1, -11])
        self.assertEqual(answers([0, 0]), [1, -22])

    def test_only_plain_whole_numbers_are_given_back(self):
        answered = answers(written(EVERY))
        self.assertIs(type(answered), list)
        for number in answered:
            self.assertIs(type(number), int)

    def test_sixty_calls(self):
        calls = [("create", 6), ("add_member", 1)] + [("recommend", 1, 9)] * 58
        self.assertEqual(play(calls), [[0], [1]] + [[0]] * 58)
        calls = [("create", 6)] + [("check_proof", 0, 1, 0, 1, [1, 0, 0] * 8)] * 58 + [("status",)]
        self.assertEqual(play(calls), [[0]] * 59 + [[6, 0, 0]])
        calls = [("create", 6)] * 59 + [("events", 1)]
        self.assertEqual(play(calls), [[0]] * 59 + [[-2]])

    def test_the_list_handed_in_is_never_changed(self):
        self.assertEqual({call[0] for call in EVERY}, set(CALLS))
        plain = written(EVERY)
        handed = Untouched(plain)
        answers(handed)
        self.assertEqual(list(handed), plain)

    def test_a_list_given_back_is_not_kept(self):
        first = answers([0, 1, 2, 3])
        first.append(99)
        self.assertEqual(answers([0, 1, 2, 3]), [1, 0, 1, 1])

    def test_a_second_run_begins_without_a_store(self):
        self.assertEqual(play([("create", 3), ("add_member", 5)]), [[0], [1]])
        self.assertEqual(play([("events", 5)]), [[-11]])
        self.assertEqual(play([("create", 3), ("events", 5)]), [[0], [-2]])

    def test_after_a_run_of_every_call_none_is_there(self):
        first = play(EVERY)
        for name in CALLS[1:]:
            self.assertEqual(play([filled(name, 7, [])]), [[-11]])
        self.assertEqual(play(EVERY), first)
        self.assertEqual(play([("create", 2), ("status",), ("absence", 7)]), [[0], [2, 0, 0], [0, 0, 0]])


class WithoutAStore(unittest.TestCase):
    def test_each_call_but_create(self):
        for name in CALLS[1:]:
            for value in (0, 1, 5, GREATEST):
                for length in (0, 1, 23, 24):
                    calls = [filled(name, value, [value] * length), ("create", 2),
                             ("add_member", 5), ("events", 5)]
                    self.assertEqual(play(calls), [[-11], [0], [1], [0]], calls)

    def test_all_calls_one_behind_another(self):
        calls = [filled(name, 1, [2, 0]) for name in CALLS[1:]] * 2
        self.assertEqual(play(calls), [[-11]] * 48)

    def test_a_row_is_read_with_its_call(self):
        handed = [17, 9, 3, 4, 5, 6, 21, 1, 2, 3, 4, 0, 18, 17, 9, 0, 13, 7, 8]
        expected = [(17, [9, [4, 5, 6]]), (21, [1, 2, 3, 4, []]), (18, []), (17, [9, []]),
                    (13, [7, 8])]
        self.assertEqual(read_calls(handed), expected)

    def test_a_refused_create_makes_no_store(self):
        for items in (0, 7, GREATEST):
            calls = [("create", items)] + [filled(name, 1, [2]) for name in CALLS[1:]]
            self.assertEqual(play(calls), [[-22]] + [[-11]] * 24)

    def test_calls_before_the_first_create_change_nothing(self):
        calls = [("add_member", 1), ("set_similarity", 0, 1, 5), ("create", 2), ("add_member", 1),
                 ("set_similarity", 0, 1, 6)]
        self.assertEqual(play(calls), [[-11], [-11], [0], [1], [0]])


class Create(unittest.TestCase):
    def test_one_to_six_items(self):
        for items in (1, 2, 3, 4, 5, 6):
            calls = [("create", items), ("add_member", 0), ("scores", 0)]
            self.assertEqual(play(calls), [[0], [1], [items] + [0] * items])

    def test_a_create_that_is_answered_0_begins_anew(self):
        calls = [("create", 3), ("set_similarity", 0, 1, 40), ("add_member", 8),
                 ("add_event", 8, 0, 1), ("create", 2), ("events", 8), ("set_similarity", 0, 1, 7),
                 ("add_member", 8), ("events", 8), ("set_similarity", 0, 2, 7)]
        expected = [[0], [0], [1], [0], [0], [-2], [0], [1], [0], [-2]]
        self.assertEqual(play(calls), expected)

    def test_a_refused_create_keeps_the_store(self):
        for items in (0, 7, 100, GREATEST):
            calls = [("create", 3), ("set_similarity", 0, 1, 40), ("add_member", 8),
                     ("add_event", 8, 0, 2), ("create", items), ("scores", 8), ("events", 8),
                     ("set_similarity", 1, 0, 7)]
            expected = [[0], [0], [1], [0], [-22], [3, 200, 80, 0], [1, 0, 2], [40]]
            self.assertEqual(play(calls), expected)

    def test_members_of_the_store_before_do_not_count(self):
        full = [("create", 3)] + [("add_member", member) for member in range(6)]
        self.assertEqual(last(full + [("create", 3), ("add_member", 9)]), [1])
        alone = [("create", 3), ("add_member", 9), ("delete_member", 9)]
        self.assertEqual(last(full + alone), last(alone))


if __name__ == "__main__":
    unittest.main()
