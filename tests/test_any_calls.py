"""Lists of calls by chance, always the same ones: against the words, and with refusals in between."""

import unittest
from random import Random

from helper import CALLS, CHANGES, GREATEST, looks, play, play_by_words

MEMBERS = (0, 1, 2, 5, 1000000, 999999, 7)
GIVEN = {
    "create": ("items",),
    "set_similarity": ("item", "item", "value"),
    "add_member": ("member",),
    "delete_member": ("member",),
    "add_event": ("member", "item", "weight"),
    "remove_event": ("member", "position"),
    "recommend": ("member", "count"),
    "contributions": ("member", "item"),
    "robust": ("member", "count"),
    "shapley": ("member", "item"),
    "influence": ("member", "position"),
    "needed_weight": ("member", "item", "item"),
    "what_if": ("member", "positions"),
    "root": (),
    "check_proof": ("half", "half", "half", "half", "steps"),
    "status": (),
}
USUAL = {
    "items": (4, 5, 6),
    "item": (0, 1, 2, 3),
    "value": (0, 1, 50, 60, 70, 80, 100),
    "member": MEMBERS,
    "weight": (1, 2, 3, 9, 10),
    "position": (0, 1, 2, 6),
    "count": (0, 1, 2, 6, GREATEST),
    "positions": ([], [0], [1], [0, 1], [0, 1, 2], [2, 3], [0, 1, 2, 3, 4, 5, 6]),
    "steps": ([], [], [0, 5, 6], [1, GREATEST, 0], [0, 1, 2] * 8),
    "half": (0, 1),
}
ODD_ROWS = ([0, 0], [1, 0], [7], [2, 0, 0], [0, 0, 0, 1], [GREATEST] * 3, list(range(24)))
ODD = (0, 4, 5, 6, 7, 8, 10, 11, 100, 101, 1000000, 1000001, GREATEST)


def any_call(chance, name):
    values = []
    for kind in GIVEN.get(name, ("member",)):
        odd = ODD_ROWS if kind in ("positions", "steps") else ODD
        values.append(chance.choice(odd if chance.random() < 0.08 else USUAL[kind]))
    return (name, *values)


def any_calls(chance, length):
    """Mostly changes at first, so that there is something to ask about."""
    calls = [("create", chance.choice((1, 4, 5, 6, 6)))]
    calls += [("add_member", member) for member in chance.sample(MEMBERS, chance.randint(1, 6))]
    while len(calls) < length:
        if len(calls) < 35:
            name = chance.choice(("set_similarity", "set_similarity", "add_event", "add_event"))
        else:
            name = chance.choice(CALLS[1:]) if chance.random() < 0.99 else "create"
        calls.append(any_call(chance, name))
    return calls


class AgainstTheWords(unittest.TestCase):
    def test_sixty_calls_at_a_time(self):
        chance = Random(5)
        answered, refused = set(), set()
        for turn in range(300):
            calls = any_calls(chance, 60)
            found = play(calls)
            for call, answer, expected in zip(calls, found, play_by_words(calls)):
                self.assertEqual(answer, expected, (call, calls))
                (refused if answer[0] < 0 else answered).add(call[0])
        # Lest a call is never answered, or never refused where it can be.
        self.assertEqual(answered, set(CALLS))
        self.assertEqual(refused, set(CALLS) - {"root", "status"})


class RefusalsChangeNothing(unittest.TestCase):
    REFUSED = (
        (("create", 0), -22), (("create", 7), -22), (("create", GREATEST), -22),
        (("set_similarity", 0, 4, 9), -2), (("set_similarity", 4, 4, 101), -2),
        (("set_similarity", 0, 1, 101), -22), (("set_similarity", 2, 2, 50), -22),
        (("add_member", 1000001), -22), (("add_member", 0), -17), (("add_member", 70), -28),
        (("delete_member", 70), -2), (("add_event", 70, 0, 1), -2), (("add_event", 0, 4, 1), -2),
        (("add_event", 0, 3, 0), -22), (("add_event", 0, 3, 11), -22), (("add_event", 1, 3, 1), -28),
        (("remove_event", 0, 1), -2), (("remove_event", 70, 0), -2), (("remove_event", 2, 0), -2),
        (("events", 70), -2), (("scores", 70), -2), (("recommend", 70, 1), -2),
        (("contributions", 0, 4), -2), (("contributions", 70, 0), -2),
        (("margin", 70), -2), (("margin", 2), -33), (("removal_set", 70), -2),
        (("removal_set", 2), -33), (("sufficient_set", 70), -2), (("sufficient_set", 2), -33),
        (("robust", 70, 1), -2), (("robust", 2, 1), -33), (("shapley", 70, 1), -2),
        (("shapley", 0, 4), -2), (("influence", 70, 0), -2), (("influence", 0, 1), -2),
        (("needed_weight", 70, 1, 2), -2), (("needed_weight", 0, 4, 2), -2),
        (("needed_weight", 0, 1, 4), -2), (("needed_weight", 0, 1, 0), -33),
        (("what_if", 70, [1, 0]), -2), (("what_if", 0, [1]), -22), (("what_if", 1, [1, 0]), -22),
        (("leaf", 70), -2), (("proof", 70), -2), (("check_proof", 0, 0, 0, 0, [1]), -22),
        (("check_proof", 0, 0, 0, 0, [2, 0, 0]), -22), (("absence", 0), -17), (("root_without", 70), -2),
    )

    def test_the_state_is_as_before(self):
        start = [("create", 4)] + [("add_member", member) for member in range(6)]
        start += [("set_similarity", 0, 1, 10), ("set_similarity", 2, 1, 20)]
        start += [("set_similarity", 0, 3, 70), ("add_event", 0, 0, 4)]
        start += [("add_event", 1, event % 4, event + 1) for event in range(7)]
        after = looks(4, (0, 1, 2, 3, 4, 5))
        plain = play(start + after)
        for call, code in self.REFUSED:
            found = play(start + [call] + after)
            self.assertEqual(found[len(start)], [code], call)
            self.assertEqual(found[len(start) + 1:], plain[len(start):], call)

    def test_many_of_them_one_behind_another(self):
        start = [("create", 4)] + [("add_member", member) for member in range(6)]
        start += [("add_event", 0, 0, 4)] + [("add_event", 1, 2, 3)] * 7
        after = [("events", 0), ("events", 1), ("scores", 1), ("delete_member", 1)]
        for refused in (self.REFUSED[::2], self.REFUSED[1::2], self.REFUSED[-30:]):
            found = play(start + [call for call, code in refused] + after)
            self.assertEqual(found[len(start):-4], [[code] for call, code in refused])
            self.assertEqual(found[-4:], play(start + after)[-4:])

    def test_every_call_has_its_refusals(self):
        called = {call[0] for call, code in self.REFUSED}
        self.assertEqual(called, set(CALLS) - {"root", "status"})


class WithoutSomeCallsTheOthersAreAnsweredTheSame(unittest.TestCase):
    def left_the_same(self, is_left_out):
        """Leaves out calls, by themselves and their answers; the rest is answered as with them."""
        chance = Random(7)
        for turn in range(150):
            calls = any_calls(chance, 60)
            pairs = list(zip(calls, play(calls)))
            rest = [pair for pair in pairs if not is_left_out(*pair)]
            self.assertLess(len(rest), len(pairs))
            self.assertEqual(play([call for call, answer in rest]), [answer for call, answer in rest])

    def test_without_the_refused_ones(self):
        self.left_the_same(lambda call, answer: answer[0] < 0)

    def test_without_those_that_only_ask(self):
        self.left_the_same(lambda call, answer: call[0] not in CHANGES)


if __name__ == "__main__":
    unittest.main()
