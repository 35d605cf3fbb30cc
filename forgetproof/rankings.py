"""Contributions, scores, rankings, and the sets of positions that explain them."""


def contribution(store, event, item):
    return event[1] * store.similarity(event[0], item)


def contributions_to(store, given_events, item):
    return [contribution(store, event, item) for event in given_events]


def scores_by(store, given_events):
    return [sum(contributions_to(store, given_events, item)) for item in range(store.item_count)]


def ranking(store, all_events, given_events):
    """The (item, score) pairs of the ranking by the given ones of all the member's events."""
    concerned = [event[0] for event in all_events]
    pairs = []
    for item, score in enumerate(scores_by(store, given_events)):
        if score > 0 and item not in concerned:
            pairs.append((item, score))
    return sorted(pairs, key=lambda pair: (-pair[1], pair[0]))


def first_of(ranked):
    """The first item of a ranking plus 1, or 0 if there is none."""
    return ranked[0][0] + 1 if len(ranked) > 0 else 0


def first_plus_one(store, all_events, given_events):
    """The first recommendation by the given events plus 1, or 0 if there is none."""
    return first_of(ranking(store, all_events, given_events))


def larger_sets(chosen_sets, position_count):
    """The sets with one position more than the chosen ones, in order if those are in order."""
    larger = []
    for chosen in chosen_sets:
        start = chosen[-1] + 1 if len(chosen) > 0 else 0
        for position in range(start, position_count):
            larger.append(chosen + [position])
    return larger


def sets_of_positions(position_count):
    """All sets of positions, ordered by size and then lexicographically."""
    ordered = []
    same_size = [[]]
    while len(same_size) > 0:
        ordered.extend(same_size)
        same_size = larger_sets(same_size, position_count)
    return ordered


def events_at(all_events, positions):
    return [all_events[position] for position in positions]


def events_without(all_events, positions):
    return [event for position, event in enumerate(all_events) if position not in positions]


def smallest_removal(store, all_events):
    """The removal set; there is one, as no event at all leads to no recommendation."""
    first = first_plus_one(store, all_events, all_events)
    for positions in sets_of_positions(len(all_events)):
        if first_plus_one(store, all_events, events_without(all_events, positions)) != first:
            return positions


def smallest_sufficient(store, all_events):
    """The sufficient set; there is one, as all events lead to what they lead to."""
    first = first_plus_one(store, all_events, all_events)
    for positions in sets_of_positions(len(all_events)):
        if first_plus_one(store, all_events, events_at(all_events, positions)) == first:
            return positions


def moved_count(old_ranked, new_ranked):
    """How many items of the old ranking aren't at the same place in the new one."""
    moved = 0
    for place, pair in enumerate(old_ranked):
        if place >= len(new_ranked) or new_ranked[place][0] != pair[0]:
            moved = moved + 1
    return moved


def leads_with(store, all_events, event, goal):
    """Whether the goal is the first recommendation when the member has this event, too."""
    more_events = all_events + [event]
    return first_plus_one(store, more_events, more_events) == goal + 1
