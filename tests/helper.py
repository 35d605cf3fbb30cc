"""Calls by their names, and the document's words written down a second time, as plainly as can be.

Nothing here draws on the package but `play`, so that a fault there isn't repeated here.
"""

from itertools import combinations

from forgetproof.reasons import answers

CALLS = (
    "create", "set_similarity", "add_member", "delete_member", "add_event", "remove_event",
    "events", "scores", "recommend", "contributions", "margin", "removal_set", "sufficient_set",
    "robust", "shapley", "influence", "needed_weight", "what_if", "root", "leaf", "proof",
    "check_proof", "absence", "root_without", "status",
)
GREATEST = 4294967295


def written(calls):
    """The list to hand in, for calls such as ("add_event", 7, 0, 2) or ("what_if", 7, [1])."""
    numbers = []
    for name, *given in calls:
        numbers.append(CALLS.index(name))
        for value in given:
            numbers.extend([len(value)] + value if isinstance(value, list) else [value])
    return numbers


def apart(answered):
    """The answers one by one, from the list that was given back."""
    found = []
    rest = list(answered)
    while rest:
        length, rest = rest[0], rest[1:]
        assert length >= 1 and len(rest) >= length, answered
        found.append(rest[:length])
        rest = rest[length:]
    return found


def play(calls):
    """The answers, a list of numbers for each call."""
    found = apart(answers(written(calls)))
    assert len(found) == len(calls), found
    return found


def last(calls):
    """The answer of the last call."""
    return play(calls)[-1]


def looks(items, members):
    """Calls that bring to light the whole state of a store with at most these members and items."""
    calls = [("events", member) for member in members]
    calls += [("scores", member) for member in members]
    calls += [("set_similarity", one, other, 0) for one, other in combinations(range(items + 1), 2)]
    calls += [("delete_member", member) for member in members]
    return calls


def fnv(some_bytes):
    value = 14695981039346656037
    for byte in some_bytes:
        value = ((value ^ byte) * 1099511628211) % (1 << 64)
    return value


def number_hash(numbers):
    return fnv(b"".join(number.to_bytes(8, "little") for number in numbers))


def root_by_words(members):
    """The root, as two halves, of members that are a dict of lists of (item, weight)."""
    level = []
    for member in sorted(members):
        flat = [number for event in members[member] for number in event]
        level.append(number_hash([1, member, len(members[member])] + flat))
    while len(level) > 1:
        pairs = [level[at:at + 2] for at in range(0, len(level), 2)]
        level = [number_hash([2] + pair) if len(pair) == 2 else pair[0] for pair in pairs]
    value = level[0] if level else number_hash([0])
    return list(divmod(value, 1 << 32))


def sets_by_words(count):
    return sorted(
        [list(chosen) for size in range(count + 1) for chosen in combinations(range(count), size)],
        key=lambda chosen: (len(chosen), chosen),
    )


class Words:
    """A store as the document's words tell it; calls are methods, refusals are [code]."""

    def __init__(self):
        self.items = None
        self.table = {}
        self.members = {}

    def answer(self, name, *given):
        if name != "create" and self.items is None:
            return [-11]
        return getattr(self, name)(*given)

    def lacks(self, member, *items):
        return member not in self.members or any(item >= self.items for item in items)

    def create(self, items):
        if items not in (1, 2, 3, 4, 5, 6):
            return [-22]
        self.items = items
        self.members = {}
        self.table = {(one, other): 100 if one == other else 0
                      for one in range(items) for other in range(items)}
        return [0]

    def set_similarity(self, first, second, value):
        if first >= self.items or second >= self.items:
            return [-2]
        if first == second or value > 100:
            return [-22]
        old = self.table[first, second]
        self.table[first, second] = self.table[second, first] = value
        return [old]

    def add_member(self, member):
        if member > 1000000:
            return [-22]
        if member in self.members:
            return [-17]
        if len(self.members) >= 6:
            return [-28]
        self.members[member] = []
        return [len(self.members)]

    def delete_member(self, member):
        if self.lacks(member):
            return [-2]
        before = root_by_words(self.members)
        count = len(self.members.pop(member))
        return [count] + before + root_by_words(self.members)

    def add_event(self, member, item, weight):
        if self.lacks(member, item):
            return [-2]
        if not 1 <= weight <= 10:
            return [-22]
        if len(self.members[member]) >= 7:
            return [-28]
        self.members[member].append((item, weight))
        return [len(self.members[member]) - 1]

    def remove_event(self, member, position):
        if self.lacks(member) or position >= len(self.members[member]):
            return [-2]
        del self.members[member][position]
        return [len(self.members[member])]

    def events(self, member):
        if self.lacks(member):
            return [-2]
        listed = self.members[member]
        return [len(listed)] + [number for event in listed for number in event]

    def score(self, listed, item):
        total = 0
        for on, weight in listed:
            total += weight * self.table[on, item]
        return total

    def scores(self, member):
        if self.lacks(member):
            return [-2]
        return [self.items] + [self.score(self.members[member], item) for item in range(self.items)]

    def ranking(self, member, positions):
        chosen = [self.members[member][position] for position in positions]
        order = []
        for score in range(7000, 0, -1):
            for item in range(self.items):
                if self.score(chosen, item) == score:
                    if all(on != item for on, weight in self.members[member]):
                        order.append((item, score))
        return order

    def firsts(self, member):
        """For each set of positions the first recommendation by them, or None."""
        count = len(self.members[member])
        found = {}
        for chosen in sets_by_words(count):
            best = None
            for item in range(self.items):
                score = self.score([self.members[member][at] for at in chosen], item)
                new = all(on != item for on, weight in self.members[member])
                if new and score > 0 and (best is None or score > best[1]):
                    best = (item, score)
            found[tuple(chosen)] = None if best is None else best[0]
        return found

    def recommend(self, member, count):
        if self.lacks(member):
            return [-2]
        order = self.ranking(member, range(len(self.members[member])))[:count]
        return [len(order)] + [number for pair in order for number in pair]

    def contributions(self, member, item):
        if self.lacks(member, item):
            return [-2]
        listed = self.members[member]
        return [len(listed)] + [weight * self.table[item, on] for on, weight in listed]

    def margin(self, member):
        if self.lacks(member):
            return [-2]
        order = self.ranking(member, range(len(self.members[member])))
        if not order:
            return [-33]
        return [order[0][1] - (order + [(0, 0)])[1][1]]

    def removal_set(self, member):
        if self.lacks(member):
            return [-2]
        firsts = self.firsts(member)
        every = tuple(range(len(self.members[member])))
        if firsts[every] is None:
            return [-33]
        for chosen in sets_by_words(len(every)):
            other = firsts[tuple(at for at in every if at not in chosen)]
            if other != firsts[every]:
                return [len(chosen)] + chosen + [0 if other is None else other + 1]

    def sufficient_set(self, member):
        if self.lacks(member):
            return [-2]
        firsts = self.firsts(member)
        every = tuple(range(len(self.members[member])))
        if firsts[every] is None:
            return [-33]
        for chosen in sets_by_words(len(every)):
            if firsts[tuple(chosen)] == firsts[every]:
                return [len(chosen)] + chosen


def play_by_words(calls):
    words = Words()
    return [words.answer(*call) for call in calls]
