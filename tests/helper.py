"""Calls by their names, and the document's words written down a second time, as plainly as can be.

Nothing here draws on the package but `play`, so that a fault there isn't repeated here.
"""

from fractions import Fraction
from itertools import combinations
from math import factorial

from forgetproof.reasons import answers

CALLS = (
    "create", "set_similarity", "add_member", "delete_member", "add_event", "remove_event",
    "events", "scores", "recommend", "contributions", "margin", "removal_set", "sufficient_set",
    "robust", "shapley", "influence", "needed_weight", "what_if", "root", "leaf", "proof",
    "check_proof", "absence", "root_without", "status",
)
GREATEST = 4294967295
# The calls that can change what later ones answer.
CHANGES = ("create", "set_similarity", "add_member", "delete_member", "add_event", "remove_event")


def written(calls):
    """The list to hand in, for calls such as ("add_event", 7, 0, 2) or ("what_if", 7, [1])."""
    numbers = []
    for name, *given in calls:
        numbers.append(CALLS.index(name))
        for value in given:
            numbers.extend([len(value)] + value if isinstance(value, list) else [value])
    return numbers


def apart(answered):
    """The answers one by one, from the list that was given back."""
    found = []
    rest = list(answered)
    while rest:
        length, rest = rest[0], rest[1:]
        assert length >= 1 and len(rest) >= length, answered
        found.append(rest[:length])
        rest = rest[length:]
    return found


def play(calls):
    """The answers, a list of numbers for each call."""
    handed = written(calls)
    assert 1 <= len(calls) <= 60 and len(handed) <= 1800, "not a list that is handed in"
    found = apart(answers(handed))
    assert len(found) == len(calls), found
    return found


def last(calls):
    """The answer of the last call."""
    return play(calls)[-1]


def asked(start, questions):
    """The answers to the questions, none of which changes anything, after the calls of the start."""
    found = []
    room = 60 - len(start)
    for at in range(0, len(questions), room):
        found += play(start + questions[at:at + room])[len(start):]
    return found


def store(items, similarities, events, member=9):
    """Calls that make a store with one member, who has these events."""
    calls = [("create", items), ("add_member", member)]
    calls += [("set_similarity",) + entry for entry in similarities]
    return calls + [("add_event", member) + event for event in events]


def filled(members):
    """Calls that make a store of six items with these members, a dict of lists of (item, weight)."""
    calls = [("create", 6)] + [("add_member", member) for member in members]
    return calls + [("add_event", member) + event for member in members for event in members[member]]


def looks(items, members):
    """Calls that bring to light the whole state of a store with at most these members and items."""
    calls = [("status",), ("root",)]
    calls += [("events", member) for member in members]
    calls += [("scores", member) for member in members]
    calls += [("set_similarity", one, other, 0) for one, other in combinations(range(items + 1), 2)]
    calls += [("delete_member", member) for member in members]
    return calls


def fnv(some_bytes):
    value = 14695981039346656037
    for byte in some_bytes:
        value = ((value ^ byte) * 1099511628211) % (1 << 64)
    return value


def number_hash(numbers):
    return fnv(b"".join(number.to_bytes(8, "little") for number in numbers))


def two_halves(value):
    return list(divmod(value, 1 << 32))


def leaf_by_words(member, events):
    return number_hash([1, member, len(events)] + [number for event in events for number in event])


def node_by_words(one, other):
    return (number_hash([2, one[0], other[0]]), one, other)


def tree_by_words(members):
    """The hash tree: nodes (value, one node, other node) down to the leaves (value, member)."""
    level = [(leaf_by_words(member, members[member]), member) for member in sorted(members)]
    while len(level) > 1:
        pairs = [level[at:at + 2] for at in range(0, len(level), 2)]
        level = [node_by_words(*pair) if len(pair) == 2 else pair[0] for pair in pairs]
    return level[0] if level else (number_hash([0]), None)


def root_by_words(members):
    """The root, as two halves, of members that are a dict of lists of (item, weight)."""
    return two_halves(tree_by_words(members)[0])


def steps_by_words(node, member):
    """The (side, value) steps from the member's leaf up to the node; None if it isn't below it."""
    if len(node) == 2:
        return [] if node[1] == member else None
    value, one, other = node
    below = steps_by_words(one, member)
    if below is not None:
        return below + [(1, other[0])]
    below = steps_by_words(other, member)
    return None if below is None else below + [(0, one[0])]


def in_numbers(steps):
    """Steps number by number, as they are handed in and answered."""
    return [number for side, value in steps for number in [side] + two_halves(value)]


def sets_by_words(count):
    return sorted(
        [list(chosen) for size in range(count + 1) for chosen in combinations(range(count), size)],
        key=lambda chosen: (len(chosen), chosen),
    )


class Words:
    """A store as the document's words tell it; calls are methods, refusals are [code]."""

    def __init__(self):
        self.items = None
        self.table = {}
        self.members = {}

    def answer(self, name, *given):
        if name != "create" and self.items is None:
            return [-11]
        return getattr(self, name)(*given)

    def lacks(self, member, *items):
        return member not in self.members or any(item >= self.items for item in items)

    def create(self, items):
        if items not in (1, 2, 3, 4, 5, 6):
            return [-22]
        self.items = items
        self.members = {}
        self.table = {(one, other): 100 if one == other else 0
                      for one in range(items) for other in range(items)}
        return [0]

    def set_similarity(self, first, second, value):
        if first >= self.items or second >= self.items:
            return [-2]
        if first == second or value > 100:
            return [-22]
        old = self.table[first, second]
        self.table[first, second] = self.table[second, first] = value
        return [old]

    def add_member(self, member):
        if member > 1000000:
            return [-22]
        if member in self.members:
            return [-17]
        if len(self.members) >= 6:
            return [-28]
        self.members[member] = []
        return [len(self.members)]

    def delete_member(self, member):
        if self.lacks(member):
            return [-2]
        before = root_by_words(self.members)
        count = len(self.members.pop(member))
        return [count] + before + root_by_words(self.members)

    def add_event(self, member, item, weight):
        if self.lacks(member, item):
            return [-2]
        if not 1 <= weight <= 10:
            return [-22]
        if len(self.members[member]) >= 7:
            return [-28]
        self.members[member].append((item, weight))
        return [len(self.members[member]) - 1]

    def remove_event(self, member, position):
        if self.lacks(member) or position >= len(self.members[member]):
            return [-2]
        del self.members[member][position]
        return [len(self.members[member])]

    def events(self, member):
        if self.lacks(member):
            return [-2]
        listed = self.members[member]
        return [len(listed)] + [number for event in listed for number in event]

    def score(self, listed, item):
        total = 0
        for on, weight in listed:
            total += weight * self.table[on, item]
        return total

    def scores(self, member):
        if self.lacks(member):
            return [-2]
        return [self.items] + [self.score(self.members[member], item) for item in range(self.items)]

    def ranking_by(self, chosen, every):
        left = {}
        for item in range(self.items):
            if self.score(chosen, item) > 0 and all(on != item for on, weight in every):
                left[item] = self.score(chosen, item)
        order = []
        while left:
            # Among equals max finds the one that was put in first, the smaller number.
            item = max(left, key=left.get)
            order.append((item, left.pop(item)))
        return order

    def ranking(self, member, positions):
        chosen = [self.members[member][position] for position in positions]
        return self.ranking_by(chosen, self.members[member])

    def firsts(self, member):
        """For each set of positions the first recommendation by them, or None."""
        count = len(self.members[member])
        found = {}
        for chosen in sets_by_words(count):
            best = None
            for item in range(self.items):
                score = self.score([self.members[member][at] for at in chosen], item)
                new = all(on != item for on, weight in self.members[member])
                if new and score > 0 and (best is None or score > best[1]):
                    best = (item, score)
            found[tuple(chosen)] = None if best is None else best[0]
        return found

    def recommend(self, member, count):
        if self.lacks(member):
            return [-2]
        order = self.ranking(member, range(len(self.members[member])))[:count]
        return [len(order)] + [number for pair in order for number in pair]

    def contributions(self, member, item):
        if self.lacks(member, item):
            return [-2]
        listed = self.members[member]
        return [len(listed)] + [weight * self.table[item, on] for on, weight in listed]

    def margin(self, member):
        if self.lacks(member):
            return [-2]
        order = self.ranking(member, range(len(self.members[member])))
        if not order:
            return [-33]
        return [order[0][1] - (order + [(0, 0)])[1][1]]

    def removal_set(self, member):
        if self.lacks(member):
            return [-2]
        firsts = self.firsts(member)
        every = tuple(range(len(self.members[member])))
        if firsts[every] is None:
            return [-33]
        for chosen in sets_by_words(len(every)):
            other = firsts[tuple(at for at in every if at not in chosen)]
            if other != firsts[every]:
                return [len(chosen)] + chosen + [0 if other is None else other + 1]

    def sufficient_set(self, member):
        if self.lacks(member):
            return [-2]
        firsts = self.firsts(member)
        every = tuple(range(len(self.members[member])))
        if firsts[every] is None:
            return [-33]
        for chosen in sets_by_words(len(every)):
            if firsts[tuple(chosen)] == firsts[every]:
                return [len(chosen)] + chosen

    def robust(self, member, count):
        if self.lacks(member):
            return [-2]
        firsts = self.firsts(member)
        every = tuple(range(len(self.members[member])))
        if firsts[every] is None:
            return [-33]
        kept_enough = [kept for kept in firsts if len(every) - len(kept) <= count]
        return [1 if all(firsts[kept] == firsts[every] for kept in kept_enough) else 0]

    def shapley(self, member, item):
        if self.lacks(member, item):
            return [-2]
        firsts = self.firsts(member)
        count = len(self.members[member])
        answer = [count]
        for event in range(count):
            value = Fraction(0)
            for chosen in firsts:
                if event not in chosen:
                    more = int(firsts[tuple(sorted(chosen + (event,)))] == item)
                    share = factorial(len(chosen)) * factorial(count - len(chosen) - 1)
                    value += Fraction(share, factorial(count)) * (more - int(firsts[chosen] == item))
            answer += [value.numerator, value.denominator]
        return answer

    def influence(self, member, position):
        if self.lacks(member) or position >= len(self.members[member]):
            return [-2]
        every = range(len(self.members[member]))
        old = [item for item, score in self.ranking(member, every)]
        new = [item for item, score in self.ranking(member, [at for at in every if at != position])]
        moved = [item for item in old if item not in new or new.index(item) != old.index(item)]
        return [old[0] + 1 if old else 0, new[0] + 1 if new else 0, len(moved)]

    def needed_weight(self, member, on, goal):
        if self.lacks(member, on, goal):
            return [-2]
        for weight in range(1, 101):
            more = self.members[member] + [(on, weight)]
            if [item for item, score in self.ranking_by(more, more)][:1] == [goal]:
                return [weight]
        return [-33]

    def what_if(self, member, positions):
        if self.lacks(member):
            return [-2]
        if positions not in sets_by_words(len(self.members[member])):
            return [-22]
        order = self.ranking(member, positions)
        return [len(order)] + [number for pair in order for number in pair]

    def root(self):
        return [len(self.members)] + root_by_words(self.members)

    def leaf(self, member):
        if self.lacks(member):
            return [-2]
        value = leaf_by_words(member, self.members[member])
        return [sorted(self.members).index(member)] + two_halves(value)

    def proof(self, member):
        if self.lacks(member):
            return [-2]
        steps = steps_by_words(tree_by_words(self.members), member)
        return [len(steps)] + in_numbers(steps)

    def check_proof(self, leaf_high, leaf_low, root_high, root_low, steps):
        groups = [steps[at:at + 3] for at in range(0, len(steps), 3)]
        if any(len(group) != 3 or group[0] not in (0, 1) for group in groups):
            return [-22]
        value = leaf_high * (1 << 32) + leaf_low
        for side, high, low in groups:
            partner = high * (1 << 32) + low
            value = number_hash([2, value, partner] if side else [2, partner, value])
        return [int(two_halves(value) == [root_high, root_low])]

    def absence(self, member):
        if member in self.members:
            return [-17]
        order = sorted(list(self.members) + [member])
        place = order.index(member)
        below = order[place - 1] + 1 if place > 0 else 0
        above = order[place + 1] + 1 if place + 1 < len(order) else 0
        return [0, below, above]

    def root_without(self, member):
        if self.lacks(member):
            return [-2]
        others = {other: self.members[other] for other in self.members if other != member}
        return [len(others)] + root_by_words(others)

    def status(self):
        return [self.items, len(self.members), sum(map(len, self.members.values()))]


def play_by_words(calls):
    words = Words()
    return [words.answer(*call) for call in calls]
