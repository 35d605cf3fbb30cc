"""What each call does on a store; each answers a list of whole numbers or raises a refusal.

All checks of a call come before its first change, so a refused call leaves the store as it was.
"""

from forgetproof.hashtree import halves, root_of
from forgetproof.rankings import contributions_to, events_without, first_plus_one, ranking
from forgetproof.rankings import scores_by, smallest_removal, smallest_sufficient
from forgetproof.refusals import MemberThere, NoRecommendation, NoRoom, NotThere, OutsideLimits
from forgetproof.store import Store

MOST_ITEMS = 6
MOST_MEMBERS = 6
MOST_EVENTS = 7
GREATEST_MEMBER = 1000000
GREATEST_SIMILARITY = 100
GREATEST_WEIGHT = 10


def new_store(item_count):
    if item_count < 1 or item_count > MOST_ITEMS:
        raise OutsideLimits()
    return Store(item_count)


def counted(numbers):
    return [len(numbers)] + numbers


def counted_pairs(pairs):
    answer = [len(pairs)]
    for first, second in pairs:
        answer.extend([first, second])
    return answer


def recommended_events(store, member):
    """The events of a member that has a first recommendation."""
    all_events = store.events_of(member)
    if first_plus_one(store, all_events, all_events) == 0:
        raise NoRecommendation()
    return all_events


def set_similarity(store, first, second, value):
    store.check_item(first)
    store.check_item(second)
    if first == second or value > GREATEST_SIMILARITY:
        raise OutsideLimits()
    old_value = store.similarity(first, second)
    store.put_similarity(first, second, value)
    return [old_value]


def add_member(store, member):
    if member > GREATEST_MEMBER:
        raise OutsideLimits()
    if member in store.members:
        raise MemberThere()
    if len(store.members) == MOST_MEMBERS:
        raise NoRoom()
    store.members[member] = []
    return [len(store.members)]


def delete_member(store, member):
    event_count = len(store.events_of(member))
    old_root = root_of(store.members)
    store.members.pop(member)
    return [event_count] + halves(old_root) + halves(root_of(store.members))


def add_event(store, member, item, weight):
    all_events = store.events_of(member)
    store.check_item(item)
    if weight < 1 or weight > GREATEST_WEIGHT:
        raise OutsideLimits()
    if len(all_events) == MOST_EVENTS:
        raise NoRoom()
    all_events.append((item, weight))
    return [len(all_events) - 1]


def remove_event(store, member, position):
    all_events = store.events_of(member)
    if position >= len(all_events):
        raise NotThere()
    all_events.pop(position)
    return [len(all_events)]


def events(store, member):
    return counted_pairs(store.events_of(member))


def scores(store, member):
    return counted(scores_by(store, store.events_of(member)))


def recommend(store, member, count):
    all_events = store.events_of(member)
    return counted_pairs(ranking(store, all_events, all_events)[:count])


def contributions(store, member, item):
    all_events = store.events_of(member)
    store.check_item(item)
    return counted(contributions_to(store, all_events, item))


def margin(store, member):
    all_events = recommended_events(store, member)
    ranked = ranking(store, all_events, all_events)
    second_score = ranked[1][1] if len(ranked) > 1 else 0
    return [ranked[0][1] - second_score]


def removal_set(store, member):
    all_events = recommended_events(store, member)
    positions = smallest_removal(store, all_events)
    other = first_plus_one(store, all_events, events_without(all_events, positions))
    return counted(positions) + [other]


def sufficient_set(store, member):
    return counted(smallest_sufficient(store, recommended_events(store, member)))


OPERATIONS = {
    1: set_similarity,
    2: add_member,
    3: delete_member,
    4: add_event,
    5: remove_event,
    6: events,
    7: scores,
    8: recommend,
    9: contributions,
    10: margin,
    11: removal_set,
    12: sufficient_set,
}


def carry_out(store, number, given):
    """The answer of the call with this number, but for create, which needs no store."""
    operation = OPERATIONS[number]
    if len(given) == 1:
        return operation(store, given[0])
    if len(given) == 2:
        return operation(store, given[0], given[1])
    return operation(store, given[0], given[1], given[2])
