"""Shapley values: the share of each event in an item's being the first recommendation."""

from forgetproof.rankings import events_at, first_plus_one, sets_of_positions


def common_divisor(one, other):
    larger = one
    smaller = other
    while smaller > 0:
        rest = larger % smaller
        larger = smaller
        smaller = rest
    return larger


def fraction(numerator, denominator):
    """The two numbers in lowest terms, for a denominator above 0."""
    divisor = common_divisor(abs(numerator), denominator)
    return (numerator // divisor, denominator // divisor)


def factorial(number):
    product = 1
    for factor in range(2, number + 1):
        product = product * factor
    return product


def leading_sets(store, all_events, item):
    """For each set of positions 1 if the item is the first recommendation by it, otherwise 0."""
    leads = {}
    for positions in sets_of_positions(len(all_events)):
        first = first_plus_one(store, all_events, events_at(all_events, positions))
        leads[tuple(positions)] = 1 if first == item + 1 else 0
    return leads


def shapley_numerator(leads, event_count, position):
    """The Shapley value of the event at the position, times the factorial of the event count."""
    total = 0
    for positions in leads:
        if position not in positions:
            gained = leads[tuple(sorted(positions + (position,)))] - leads[positions]
            others = event_count - len(positions) - 1
            total = total + factorial(len(positions)) * factorial(others) * gained
    return total


def event_values(store, all_events, item):
    """The value of each event, as a fraction."""
    event_count = len(all_events)
    leads = leading_sets(store, all_events, item)
    values = []
    for position in range(event_count):
        numerator = shapley_numerator(leads, event_count, position)
        values.append(fraction(numerator, factorial(event_count)))
    return values
