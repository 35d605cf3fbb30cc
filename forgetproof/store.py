"""The store: the similarities of the items, and the members with their events."""

from forgetproof.refusals import NotThere


def pair_of(first, second):
    return (min(first, second), max(first, second))


class Store:
    def __init__(self, item_count):
        self.item_count = item_count
        # One entry for both orders of a pair: so similarities can't but be symmetric.
        self.similarities = {}
        # The list of events, each an (item, weight), by the member's number.
        self.members = {}

    def similarity(self, first, second):
        if first == second:
            return 100
        return self.similarities.get(pair_of(first, second), 0)

    def put_similarity(self, first, second, value):
        self.similarities[pair_of(first, second)] = value

    def check_item(self, item):
        if item >= self.item_count:
            raise NotThere()

    def check_member(self, member):
        if member not in self.members:
            raise NotThere()

    def events_of(self, member):
        self.check_member(member)
        return self.members[member]
