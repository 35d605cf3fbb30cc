"""What each call does on a store; each answers a list of whole numbers or raises a refusal.

All checks of a call come before its first change, so a refused call leaves the store as it was.
"""

from forgetproof.hashtree import halves, index_of, leaf_of, led_to, proof_of, root_of
from forgetproof.hashtree import root_without_one, whole_of
from forgetproof.rankings import contributions_to, events_at, events_without, first_of
from forgetproof.rankings import first_plus_one, leads_with, moved_count, ranking, scores_by
from forgetproof.rankings import smallest_removal, smallest_sufficient
from forgetproof.refusals import MemberThere, NoRecommendation, NoRoom, NoSuchWeight, NotThere
from forgetproof.refusals import OutsideLimits
from forgetproof.shapley_values import event_values
from forgetproof.store import Store

MOST_ITEMS = 6
MOST_MEMBERS = 6
MOST_EVENTS = 7
GREATEST_MEMBER = 1000000
GREATEST_SIMILARITY = 100
GREATEST_WEIGHT = 10
GREATEST_NEEDED_WEIGHT = 100
# The numbers of one step of a proof: its side, and the two halves of the partner's value.
STEP_LENGTH = 3


def new_store(item_count):
    if item_count < 1 or item_count > MOST_ITEMS:
        raise OutsideLimits()
    return Store(item_count)


def counted(numbers):
    return [len(numbers)] + numbers


def counted_pairs(pairs):
    answer = [len(pairs)]
    for first, second in pairs:
        answer.extend([first, second])
    return answer


def recommended_events(store, member):
    """The events of a member that has a first recommendation."""
    all_events = store.events_of(member)
    if first_plus_one(store, all_events, all_events) == 0:
        raise NoRecommendation()
    return all_events


def events_with(store, member, position):
    """The events of a member that has one at this position."""
    all_events = store.events_of(member)
    if position >= len(all_events):
        raise NotThere()
    return all_events


def check_positions(positions, position_count):
    for at, position in enumerate(positions):
        if position >= position_count or (at > 0 and position <= positions[at - 1]):
            raise OutsideLimits()


def steps_of(numbers):
    """The (side, partner) steps that are handed in number by number."""
    if len(numbers) % STEP_LENGTH != 0:
        raise OutsideLimits()
    steps = []
    for at in range(0, len(numbers), STEP_LENGTH):
        if numbers[at] > 1:
            raise OutsideLimits()
        steps.append((numbers[at], whole_of(numbers[at + 1], numbers[at + 2])))
    return steps


def set_similarity(store, first, second, value):
    store.check_item(first)
    store.check_item(second)
    if first == second or value > GREATEST_SIMILARITY:
        raise OutsideLimits()
    old_value = store.similarity(first, second)
    store.put_similarity(first, second, value)
    return [old_value]


def add_member(store, member):
    if member > GREATEST_MEMBER:
        raise OutsideLimits()
    if member in store.members:
        raise MemberThere()
    if len(store.members) == MOST_MEMBERS:
        raise NoRoom()
    store.members[member] = []
    return [len(store.members)]


def delete_member(store, member):
    event_count = len(store.events_of(member))
    old_root = root_of(store.members)
    store.members.pop(member)
    return [event_count] + halves(old_root) + halves(root_of(store.members))


def add_event(store, member, item, weight):
    all_events = store.events_of(member)
    store.check_item(item)
    if weight < 1 or weight > GREATEST_WEIGHT:
        raise OutsideLimits()
    if len(all_events) == MOST_EVENTS:
        raise NoRoom()
    all_events.append((item, weight))
    return [len(all_events) - 1]


def remove_event(store, member, position):
    all_events = events_with(store, member, position)
    all_events.pop(position)
    return [len(all_events)]


def events(store, member):
    return counted_pairs(store.events_of(member))


def scores(store, member):
    return counted(scores_by(store, store.events_of(member)))


def recommend(store, member, count):
    all_events = store.events_of(member)
    return counted_pairs(ranking(store, all_events, all_events)[:count])


def contributions(store, member, item):
    all_events = store.events_of(member)
    store.check_item(item)
    return counted(contributions_to(store, all_events, item))


def margin(store, member):
    all_events = recommended_events(store, member)
    ranked = ranking(store, all_events, all_events)
    second_score = ranked[1][1] if len(ranked) > 1 else 0
    return [ranked[0][1] - second_score]


def removal_set(store, member):
    all_events = recommended_events(store, member)
    positions = smallest_removal(store, all_events)
    other = first_plus_one(store, all_events, events_without(all_events, positions))
    return counted(positions) + [other]


def sufficient_set(store, member):
    return counted(smallest_sufficient(store, recommended_events(store, member)))


def robust(store, member, count):
    all_events = recommended_events(store, member)
    return [1 if len(smallest_removal(store, all_events)) > count else 0]


def shapley(store, member, item):
    all_events = store.events_of(member)
    store.check_item(item)
    return counted_pairs(event_values(store, all_events, item))


def influence(store, member, position):
    all_events = events_with(store, member, position)
    old_ranked = ranking(store, all_events, all_events)
    new_ranked = ranking(store, all_events, events_without(all_events, [position]))
    return [first_of(old_ranked), first_of(new_ranked), moved_count(old_ranked, new_ranked)]


def needed_weight(store, member, on, goal):
    all_events = store.events_of(member)
    store.check_item(on)
    store.check_item(goal)
    for weight in range(1, GREATEST_NEEDED_WEIGHT + 1):
        if leads_with(store, all_events, (on, weight), goal):
            return [weight]
    raise NoSuchWeight()


def what_if(store, member, positions):
    all_events = store.events_of(member)
    check_positions(positions, len(all_events))
    return counted_pairs(ranking(store, all_events, events_at(all_events, positions)))


def root(store):
    return [len(store.members)] + halves(root_of(store.members))


def leaf(store, member):
    all_events = store.events_of(member)
    return [index_of(store.members, member)] + halves(leaf_of(member, all_events))


def proof(store, member):
    store.check_member(member)
    steps = proof_of(store.members, member)
    answer = [len(steps)]
    for side, partner in steps:
        answer.extend([side] + halves(partner))
    return answer


def check_proof(store, leaf_high, leaf_low, root_high, root_low, step_numbers):
    """Needs the store only to be there."""
    value = led_to(whole_of(leaf_high, leaf_low), steps_of(step_numbers))
    return [1 if value == whole_of(root_high, root_low) else 0]


def absence(store, member):
    if member in store.members:
        raise MemberThere()
    below = [other + 1 for other in store.members if other < member]
    above = [other + 1 for other in store.members if other > member]
    return [0, max(below, default=0), min(above, default=0)]


def root_without(store, member):
    store.check_member(member)
    return [len(store.members) - 1] + halves(root_without_one(store.members, member))


def status(store):
    event_count = sum([len(store.members[member]) for member in store.members])
    return [store.item_count, len(store.members), event_count]


OPERATIONS = {
    1: set_similarity,
    2: add_member,
    3: delete_member,
    4: add_event,
    5: remove_event,
    6: events,
    7: scores,
    8: recommend,
    9: contributions,
    10: margin,
    11: removal_set,
    12: sufficient_set,
    13: robust,
    14: shapley,
    15: influence,
    16: needed_weight,
    17: what_if,
    18: root,
    19: leaf,
    20: proof,
    21: check_proof,
    22: absence,
    23: root_without,
    24: status,
}


def carry_out(store, number, given):
    """The answer of the call with this number, but for create, which needs no store."""
    operation = OPERATIONS[number]
    if len(given) == 0:
        return operation(store)
    if len(given) == 1:
        return operation(store, given[0])
    if len(given) == 2:
        return operation(store, given[0], given[1])
    if len(given) == 3:
        return operation(store, given[0], given[1], given[2])
    return operation(store, given[0], given[1], given[2], given[3], given[4])
