"""root, leaf, proof, check_proof, root_without: the hash tree and its proofs."""

import unittest

from helper import GREATEST, asked, filled, fnv, in_numbers, last, leaf_by_words, node_by_words
from helper import number_hash, play, root_by_words, steps_by_words, tree_by_words, two_halves

EVENTS = {
    500: [],
    3: [(0, 1)],
    1000000: [(1, 10), (0, 2)],
    0: [(2, 3)] * 7,
    77: [(5, 4), (4, 5), (3, 6)],
    76: [(1, 1)],
}
ORDER = (0, 3, 76, 77, 500, 1000000)
NOT_THERE = (1, 2, 4, 501, 999999, 1000001, GREATEST)
EMPTY_ROOT = two_halves(fnv(b"\0" * 8))


def first_members(size):
    return {member: EVENTS[member] for member in list(EVENTS)[:size]}


def leaves(members):
    return [(leaf_by_words(member, members[member]), member) for member in sorted(members)]


def as_call(leaf_value, root_value, steps):
    return ("check_proof", *two_halves(leaf_value), *two_halves(root_value), in_numbers(steps))


class TheTreeByHand(unittest.TestCase):
    """What is joined with what, for each number of members."""

    def tree(self, size):
        one, two, three, four, five, six = leaves(EVENTS)
        pair = node_by_words
        return {
            1: one,
            2: pair(one, two),
            3: pair(pair(one, two), three),
            4: pair(pair(one, two), pair(three, four)),
            5: pair(pair(pair(one, two), pair(three, four)), five),
            6: pair(pair(pair(one, two), pair(three, four)), pair(five, six)),
        }[size]

    def test_roots_of_one_to_six_members(self):
        for size in range(1, 7):
            members = {member: EVENTS[member] for member in ORDER[:size]}
            found = last(filled(members) + [("root",)])
            self.assertEqual(found, [size] + two_halves(self.tree(size)[0]), size)

    def test_the_proofs_of_three_members(self):
        members = {member: EVENTS[member] for member in ORDER[:3]}
        (one, number), (two, number), (three, number) = leaves(members)
        found = asked(filled(members), [("proof", member) for member in ORDER[:3]])
        both = number_hash([2, one, two])
        self.assertEqual(found[0], [2] + in_numbers([(1, two), (1, three)]))
        self.assertEqual(found[1], [2] + in_numbers([(0, one), (1, three)]))
        self.assertEqual(found[2], [1] + in_numbers([(0, both)]))

    def test_the_proofs_of_five_members(self):
        members = {member: EVENTS[member] for member in ORDER[:5]}
        one, two, three, four, five = [value for value, number in leaves(members)]
        low, high = number_hash([2, one, two]), number_hash([2, three, four])
        expected = ([(1, two), (1, high), (1, five)], [(0, one), (1, high), (1, five)],
                    [(1, four), (0, low), (1, five)], [(0, three), (0, low), (1, five)],
                    [(0, number_hash([2, low, high]))])
        found = asked(filled(members), [("proof", member) for member in ORDER[:5]])
        for answer, steps in zip(found, expected):
            self.assertEqual(answer, [len(steps)] + in_numbers(steps))

    def test_the_proofs_of_six_members(self):
        one, two, three, four, five, six = [value for value, number in leaves(EVENTS)]
        low, high = number_hash([2, one, two]), number_hash([2, three, four])
        rest, most = number_hash([2, five, six]), number_hash([2, low, high])
        expected = ([(1, two), (1, high), (1, rest)], [(0, one), (1, high), (1, rest)],
                    [(1, four), (0, low), (1, rest)], [(0, three), (0, low), (1, rest)],
                    [(1, six), (0, most)], [(0, five), (0, most)])
        found = asked(filled(EVENTS), [("proof", member) for member in ORDER])
        for answer, steps in zip(found, expected):
            self.assertEqual(answer, [len(steps)] + in_numbers(steps))


class Root(unittest.TestCase):
    def test_without_members(self):
        self.assertEqual(last([("create", 3), ("root",)]), [0] + EMPTY_ROOT)
        calls = [("create", 3), ("add_member", 1), ("delete_member", 1), ("root",)]
        self.assertEqual(last(calls), [0] + EMPTY_ROOT)

    def test_one_member_the_root_is_the_leaf(self):
        for member in (0, 5, 1000000):
            bytes_of_leaf = b"".join(number.to_bytes(8, "little") for number in (1, member, 1, 2, 9))
            halves = two_halves(fnv(bytes_of_leaf))
            calls = [("create", 3), ("add_member", member), ("add_event", member, 2, 9)]
            found = play(calls + [("root",), ("leaf", member), ("proof", member)])
            self.assertEqual(found[-3:], [[1] + halves, [0] + halves, [0]])

    def test_known_roots(self):
        # Worked out by a program in C, apart from this one and from the helper.
        self.assertEqual(last([("create", 1), ("root",)]), [0, 2831677490, 672807365])
        members = {7: [(0, 2)], 300: [(1, 10), (2, 1)], 1000000: []}
        found = asked(filled(members), [("root",), ("leaf", 1000000), ("proof", 7), ("root_without", 1000000)])
        self.assertEqual(found[0], [3, 387855195, 4097498754])
        self.assertEqual(found[1], [2, 3723783583, 1048579549])
        self.assertEqual(found[2], [2, 1, 3022797862, 1583381225, 1, 3723783583, 1048579549])
        self.assertEqual(found[3], [2, 2110146246, 1560291141])

    def test_for_each_number_of_members(self):
        for size in range(7):
            members = first_members(size)
            self.assertEqual(last(filled(members) + [("root",)]), [size] + root_by_words(members))

    def test_the_order_of_adding_does_not_matter(self):
        backwards = {member: EVENTS[member] for member in reversed(list(EVENTS))}
        self.assertEqual(last(filled(backwards) + [("root",)]), last(filled(EVENTS) + [("root",)]))

    def test_what_changes_it_and_what_does_not(self):
        calls = [("create", 3), ("add_member", 4), ("root",), ("add_event", 4, 0, 1), ("root",),
                 ("set_similarity", 0, 1, 50), ("root",), ("remove_event", 4, 0), ("root",),
                 ("add_event", 4, 1, 1), ("root",), ("remove_event", 4, 0), ("root",)]
        found = play(calls)
        self.assertEqual(found[4], found[6])
        self.assertEqual([found[2], found[2]], [found[8], found[12]])
        self.assertEqual(len({tuple(found[at]) for at in (2, 4, 10)}), 3)


class Leaf(unittest.TestCase):
    def test_index_and_value(self):
        found = asked(filled(EVENTS), [("leaf", member) for member in ORDER])
        for index, member in enumerate(ORDER):
            value = leaf_by_words(member, EVENTS[member])
            self.assertEqual(found[index], [index] + two_halves(value))

    def test_indexes_move_when_members_come_and_go(self):
        calls = [("create", 1), ("add_member", 5), ("leaf", 5), ("add_member", 9), ("leaf", 5),
                 ("add_member", 2), ("leaf", 5), ("leaf", 9), ("delete_member", 5), ("leaf", 9)]
        found = play(calls)
        self.assertEqual([found[at][0] for at in (2, 4, 6, 7, 9)], [0, 0, 1, 2, 1])
        self.assertEqual(len({tuple(found[at][1:]) for at in (2, 4, 6)}), 1)

    def test_a_member_that_does_not_exist(self):
        for member in NOT_THERE:
            self.assertEqual(last(filled(EVENTS) + [("leaf", member)]), [-2])
        self.assertEqual(last([("create", 1), ("leaf", 0)]), [-2])


class Proof(unittest.TestCase):
    def test_for_each_number_of_members(self):
        for size in range(1, 7):
            members = first_members(size)
            tree = tree_by_words(members)
            found = asked(filled(members), [("proof", member) for member in members])
            for member, answer in zip(members, found):
                steps = steps_by_words(tree, member)
                self.assertEqual(answer, [len(steps)] + in_numbers(steps))

    def test_the_number_of_steps(self):
        expected = {1: [0], 2: [1, 1], 3: [2, 2, 1], 4: [2] * 4, 5: [3] * 4 + [1], 6: [3] * 4 + [2] * 2}
        for size, counts in expected.items():
            members = sorted(first_members(size))
            found = asked(filled(first_members(size)), [("proof", member) for member in members])
            self.assertEqual([answer[0] for answer in found], counts)
            for answer in found:
                self.assertEqual(len(answer), 1 + 3 * answer[0])

    def test_a_member_that_does_not_exist(self):
        for member in NOT_THERE:
            self.assertEqual(last(filled(EVENTS) + [("proof", member)]), [-2])
        self.assertEqual(last([("create", 1), ("proof", 0)]), [-2])


class CheckProof(unittest.TestCase):
    START = [("create", 1)]

    def check(self, call):
        return last(self.START + [call])

    def test_no_step(self):
        for halves in ((0, 0), (0, 1), (1, 0), (GREATEST, GREATEST), (GREATEST, 0)):
            self.assertEqual(self.check(("check_proof", *halves, *halves, [])), [1])
        for given in ((0, 1, 1, 0), (0, 1, 0, 2), (1, 0, 2, 0), (GREATEST, GREATEST, GREATEST, 0),
                      (GREATEST, GREATEST, 0, GREATEST), (0, GREATEST, GREATEST, GREATEST)):
            self.assertEqual(self.check(("check_proof", *given, [])), [0], given)

    def test_one_step_of_each_side(self):
        for leaf_value, partner in ((1, 2), (0, 0), (1 << 63, 5), ((1 << 64) - 1, (1 << 64) - 2)):
            for side, root in ((0, number_hash([2, partner, leaf_value])),
                               (1, number_hash([2, leaf_value, partner]))):
                self.assertEqual(self.check(as_call(leaf_value, root, [(side, partner)])), [1])
                self.assertEqual(self.check(as_call(leaf_value, root ^ 1, [(side, partner)])), [0])
                self.assertEqual(self.check(as_call(leaf_value, root ^ (1 << 63), [(side, partner)])), [0])
                if leaf_value != partner:
                    other = as_call(leaf_value, root, [(1 - side, partner)])
                    self.assertEqual(self.check(other), [0])

    def test_halves_that_are_the_greatest(self):
        top = (1 << 64) - 1
        root = number_hash([2, top, top])
        for side in (0, 1):
            call = ("check_proof", GREATEST, GREATEST, *two_halves(root), [side, GREATEST, GREATEST])
            self.assertEqual(self.check(call), [1])
            call = ("check_proof", GREATEST, GREATEST, GREATEST, GREATEST, [side, GREATEST, GREATEST])
            self.assertEqual(self.check(call), [0])

    def test_one_to_eight_steps(self):
        steps = [(at * at % 3 % 2, number_hash([at, at])) for at in range(8)]
        self.assertEqual({side for side, value in steps}, {0, 1})
        value = 12345678901234567890
        for count, (side, partner) in enumerate(steps, 1):
            value = number_hash([2, value, partner] if side else [2, partner, value])
            call = as_call(12345678901234567890, value, steps[:count])
            self.assertEqual(self.check(call), [1])
            self.assertEqual(self.check(call[:-1] + (in_numbers(steps[:count - 1]),)), [0])
            if count > 1:
                turned = in_numbers(steps[count - 1::-1])
                self.assertEqual(self.check(call[:-1] + (turned,)), [0])
        self.assertEqual(len(in_numbers(steps)), 24)

    def test_steps_that_are_not_groups(self):
        for length in range(25):
            for value in (0, 1):
                code = -22 if length % 3 else 0
                call = ("check_proof", 0, 1, 0, 1, [value] * length)
                self.assertEqual(self.check(call), [1 if length == 0 else code], length)

    def test_sides_that_there_are_not(self):
        for side in (2, 3, 100, GREATEST):
            for steps in ([side, 0, 0], [0, 0, 0, side, 0, 0], [1, 5, 5] * 7 + [side, 5, 5],
                          [side, 0, 0] * 8, [side], [side, 0], [side, 0, 0, 1]):
                self.assertEqual(self.check(("check_proof", 0, 1, 0, 1, steps)), [-22], steps)

    def test_refused_whatever_the_leaf_and_the_root(self):
        for value in (0, 1, GREATEST):
            call = ("check_proof", value, value, value, value, [2, value, value])
            self.assertEqual(self.check(call), [-22])

    def test_the_store_does_not_matter(self):
        call = as_call(7, number_hash([2, 7, 8]), [(1, 8)])
        for calls in (filled(EVENTS), filled({}), [("create", 1)]):
            self.assertEqual(last(calls + [call]), [1])


class ProofsAreComplete(unittest.TestCase):
    """Requirement 3, by the program's own answers."""

    def test_every_member_of_one_to_six(self):
        for size in range(1, 7):
            members = first_members(size)
            start = filled(members)
            root = last(start + [("root",)])[1:]
            for member in members:
                leaf, proof = asked(start, [("leaf", member), ("proof", member)])
                given = tuple(leaf[1:] + root)
                self.assertEqual(last(start + [("check_proof",) + given + (proof[1:],)]), [1])
                for at in range(4):
                    wrong = list(given)
                    wrong[at] ^= 1
                    call = ("check_proof", *wrong, proof[1:])
                    self.assertEqual(last(start + [call]), [0], at)

    def test_not_with_another_members_leaf_or_steps(self):
        start = filled(EVENTS)
        root = last(start + [("root",)])[1:]
        leaf_of = {member: last(start + [("leaf", member)])[1:] for member in ORDER}
        proof_of = {member: last(start + [("proof", member)])[1:] for member in ORDER}
        for one in ORDER:
            for other in ORDER:
                call = ("check_proof", *leaf_of[one], *root, proof_of[other])
                self.assertEqual(last(start + [call]), [int(one == other)], (one, other))

    def test_not_any_more_after_a_change(self):
        start = filled(EVENTS)
        for change in (("delete_member", 76), ("add_event", 76, 0, 1), ("remove_event", 3, 0)):
            leaf, proof = asked(start, [("leaf", 77), ("proof", 77)])
            root = last(start + [change, ("root",)])[1:]
            call = ("check_proof", *leaf[1:], *root, proof[1:])
            self.assertEqual(last(start + [call]), [0])


class RootWithout(unittest.TestCase):
    def test_for_each_member(self):
        for size in range(1, 7):
            members = first_members(size)
            for gone in members:
                others = {member: members[member] for member in members if member != gone}
                found = play(filled(members) + [("root_without", gone), ("root",), ("status",),
                                                ("delete_member", gone), ("root",)])
                self.assertEqual(found[-5], [size - 1] + root_by_words(others))
                self.assertEqual(found[-5], found[-1])
                self.assertEqual(found[-2], [len(members[gone])] + found[-4][1:] + found[-5][1:])
                self.assertEqual(found[-3][1], size)

    def test_the_only_member(self):
        for events in ([], [(0, 1)], [(5, 10)] * 7):
            self.assertEqual(last(filled({8: events}) + [("root_without", 8)]), [0] + EMPTY_ROOT)

    def test_a_member_that_does_not_exist(self):
        for member in NOT_THERE:
            self.assertEqual(last(filled(EVENTS) + [("root_without", member)]), [-2])
        self.assertEqual(last([("create", 1), ("root_without", 0)]), [-2])


class AskingChangesNothing(unittest.TestCase):
    def test_the_whole_tree(self):
        questions = [("root",), ("root_without", 77), ("leaf", 77), ("proof", 77), ("events", 77),
                     ("check_proof", 1, 2, 3, 4, [1, 2, 3]), ("check_proof", 1, 2, 3, 4, [2]), ("status",)]
        found = play(filled(EVENTS) + questions + questions)
        self.assertEqual(found[-8:], found[-16:-8])


if __name__ == "__main__":
    unittest.main()
