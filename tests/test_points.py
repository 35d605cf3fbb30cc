"""The document's points 1 to 6 over many stores, by what the program itself answers.

Point 7, that a refused call changes nothing, is held to in test_any_calls.
"""

import unittest
from fractions import Fraction
from random import Random

from helper import GREATEST, asked, filled, last, play, sets_by_words, store

STORES = 96


def any_similarities(chance, items):
    return [(one, other, chance.choice((0, 10, 20, 50, chance.randint(0, 100))))
            for one in range(items) for other in range(one)]


def any_store(chance, count):
    """The number of items and a store whose member 9 has this many events."""
    items = chance.randint(2, 6)
    kinds = chance.randint(1, items)
    events = [(chance.randrange(kinds), chance.randint(1, 10)) for event in range(count)]
    return items, store(items, any_similarities(chance, items), events)


def any_members(chance, size):
    return {member: any_events(chance, 4) for member in chance.sample(range(1000), size)}


def any_events(chance, most):
    return [(chance.randrange(6), chance.randint(1, 10)) for event in range(chance.randint(0, most))]


def firsts_by(calls, count):
    """For each set of positions the first recommendation by it, or None."""
    chosen_sets = sets_by_words(count)
    found = asked(calls, [("what_if", 9, chosen) for chosen in chosen_sets])
    return {tuple(chosen): answer[1] if answer[0] else None for chosen, answer in zip(chosen_sets, found)}


class SmallestSets(unittest.TestCase):
    def test_points_1_and_6(self):
        chance = Random(31)
        recommended = 0
        for turn in range(STORES):
            count = turn % 8
            items, calls = any_store(chance, count)
            firsts = firsts_by(calls, count)
            every = tuple(range(count))
            questions = [("removal_set", 9), ("sufficient_set", 9)]
            questions += [("robust", 9, left_out) for left_out in range(count + 2)]
            removal, sufficient, *robust = asked(calls, questions)
            if firsts[every] is None:
                self.assertEqual([removal, sufficient] + robust, [[-33]] * len(questions))
                continue
            recommended += 1
            without = {chosen: firsts[tuple(at for at in every if at not in chosen)] for chosen in firsts}
            changing = [chosen for chosen in firsts if without[chosen] != firsts[every]]
            leading = [chosen for chosen in firsts if firsts[chosen] == firsts[every]]
            other = without[changing[0]]
            self.assertEqual(removal, [len(changing[0]), *changing[0], 0 if other is None else other + 1])
            self.assertEqual(sufficient, [len(leading[0]), *leading[0]])
            # What is robust at a count is robust at each smaller one.
            expected = [[int(left_out < len(changing[0]))] for left_out in range(count + 2)]
            self.assertEqual(robust, expected)
        self.assertGreater(recommended, STORES // 2)


class ShapleyValues(unittest.TestCase):
    def test_point_2(self):
        chance = Random(37)
        for turn in range(STORES):
            items, calls = any_store(chance, turn % 8)
            found = asked(calls, [("shapley", 9, item) for item in range(items)])
            first = last(calls + [("recommend", 9, 1)])
            for item, answer in enumerate(found):
                self.assertEqual(answer[0], turn % 8)
                self.assertEqual(len(answer), 1 + 2 * answer[0])
                values = []
                for numerator, denominator in zip(answer[1::2], answer[2::2]):
                    values.append(Fraction(numerator, denominator))
                    # The same two numbers again: in lowest terms, the denominator above 0.
                    self.assertEqual(values[-1].as_integer_ratio(), (numerator, denominator))
                self.assertEqual(sum(values), int(first[:2] == [1, item]))


class Proofs(unittest.TestCase):
    def test_point_3(self):
        chance = Random(41)
        for turn in range(STORES):
            members = any_members(chance, 1 + turn % 6)
            start = filled(members)
            root = last(start + [("root",)])[1:]
            questions = [(name, member) for member in members for name in ("leaf", "proof")]
            found = asked(start, questions)
            checks = []
            for leaf, proof in zip(found[::2], found[1::2]):
                for high, low in ((0, 0), (1, 0), (0, 1), (1 << 31, 1 << 31)):
                    checks.append(("check_proof", *leaf[1:], root[0] ^ high, root[1] ^ low, proof[1:]))
            self.assertEqual(asked(start, checks), [[1], [0], [0], [0]] * len(members))


class Deletion(unittest.TestCase):
    def test_point_4(self):
        chance = Random(43)
        for turn in range(STORES):
            members = any_members(chance, turn % 6)
            events = any_events(chance, 7)
            gone = chance.randrange(1001, 2001) if turn % 2 else -1
            while gone < 0 or gone in members:
                gone = chance.randrange(1000)
            come = [("add_member", gone)] + [("add_event", gone) + event for event in events]
            come += [("remove_event", gone, 0)] if events and turn % 3 == 0 else []
            found = play(filled(members) + [("root",), ("absence", gone)] + come + [
                ("root",), ("root_without", gone), ("delete_member", gone), ("root",), ("absence", gone)])
            size = len(filled(members))
            before, absent = found[size:size + 2]
            there, without, deleted, after, absent_again = found[-5:]
            self.assertEqual([after, without, absent_again], [before, before, absent])
            self.assertEqual(deleted[1:], there[1:] + before[1:])
            self.assertNotEqual(there[1:], before[1:])

    def test_without_a_member_is_as_after_its_deletion(self):
        chance = Random(47)
        for turn in range(STORES):
            members = any_members(chance, 1 + turn % 6)
            start = filled(members)
            for gone in members:
                without, deleted, after = play(start + [
                    ("root_without", gone), ("delete_member", gone), ("root",)])[-3:]
                self.assertEqual([without[0]] + deleted[3:], after)
                self.assertEqual(without, after)

    def test_whatever_is_asked_afterwards(self):
        chance = Random(53)
        for turn in range(STORES):
            members = any_members(chance, 1 + turn % 5)
            kept = chance.choice(list(members))
            similar = [("set_similarity",) + entry for entry in any_similarities(chance, 6)]
            gone = [("add_member", 5000)] + [("add_event", 5000) + event for event in any_events(chance, 6)]
            questions = [("status",), ("leaf", kept), ("proof", kept), ("recommend", kept, 6),
                         ("margin", kept), ("shapley", kept, 1), ("absence", 6000), ("events", 5000)]
            plain = play(filled(members) + similar + questions)
            found = play(filled(members) + gone + similar + [("delete_member", 5000)] + questions)
            self.assertEqual(found[-8:], plain[-8:])


class SumsAndOrders(unittest.TestCase):
    def test_contributions_add_up(self):
        chance = Random(59)
        for turn in range(STORES):
            items, calls = any_store(chance, turn % 8)
            scores, *found = asked(calls, [("scores", 9)] + [
                ("contributions", 9, item) for item in range(items)])
            self.assertEqual(scores, [items] + [sum(answer[1:]) for answer in found])
            self.assertEqual([answer[0] for answer in found], [turn % 8] * items)

    def test_members_are_in_the_order_of_their_numbers(self):
        chance = Random(61)
        for turn in range(STORES):
            members = any_members(chance, turn % 7)
            found = asked(filled(members), [("leaf", member) for member in sorted(members)])
            self.assertEqual([answer[0] for answer in found], list(range(len(members))))
            # From one member to the next by what absence tells of the numbers in between.
            if 0 not in members:
                seen = []
                above = last(filled(members) + [("absence", 0)])[2]
                while above and above not in members:
                    seen.append(above - 1)
                    above = last(filled(members) + [("absence", above)])[2]
                if above == 0:
                    self.assertEqual(seen, sorted(members))

    def test_similarities_are_symmetric(self):
        chance = Random(67)
        for turn in range(STORES // 8):
            calls = [("create", 6), ("add_member", 0)]
            calls += [("set_similarity",) + entry for entry in any_similarities(chance, 6)]
            table = []
            for item in range(6):
                found = play(calls + [("add_event", 0, item, 1), ("scores", 0)])
                table.append(found[-1][1:])
            self.assertEqual(table, [list(column) for column in zip(*table)])
            self.assertEqual([table[item][item] for item in range(6)], [100] * 6)


class TheGreatestNumbers(unittest.TestCase):
    def test_what_is_beyond_each_range_is_answered_all_the_same(self):
        start = store(6, [(0, 1, 50)], [(0, 1)])
        expected = {"set_similarity": -2, "add_member": -22, "delete_member": -2, "add_event": -2,
                    "remove_event": -2, "events": -2, "scores": -2, "recommend": -2,
                    "contributions": -2, "margin": -2, "removal_set": -2, "sufficient_set": -2,
                    "robust": -2, "shapley": -2, "influence": -2, "needed_weight": -2,
                    "leaf": -2, "proof": -2, "root_without": -2}
        counts = {"set_similarity": 3, "add_event": 3, "remove_event": 2, "recommend": 2,
                  "contributions": 2, "robust": 2, "shapley": 2, "influence": 2, "needed_weight": 3}
        for name, code in expected.items():
            call = (name,) + (GREATEST,) * counts.get(name, 1)
            self.assertEqual(last(start + [call]), [code], call)
        self.assertEqual(last(start + [("what_if", GREATEST, [GREATEST] * 24)]), [-2])
        self.assertEqual(last(start + [("check_proof",) + (GREATEST,) * 4 + ([GREATEST] * 24,)]), [-22])
        self.assertEqual(last(start + [("absence", GREATEST)]), [0, 10, 0])


if __name__ == "__main__":
    unittest.main()
