"""The hash of a list of whole numbers, the hash tree over the members of a store, and its proofs."""

START = 14695981039346656037
FACTOR = 1099511628211
LOWER_64_BITS = 18446744073709551615
LOWER_32_BITS = 4294967295


def hash_of(numbers):
    """64-bit FNV-1a over eight bytes for each number, the lowest byte first."""
    value = START
    for number in numbers:
        for shift in range(0, 64, 8):
            value = value ^ ((number >> shift) & 255)
            value = (value * FACTOR) & LOWER_64_BITS
    return value


def halves(value):
    return [value >> 32, value & LOWER_32_BITS]


def whole_of(high, low):
    return (high << 32) | low


def leaf_of(member, member_events):
    numbers = [1, member, len(member_events)]
    for item, weight in member_events:
        numbers.extend([item, weight])
    return hash_of(numbers)


def index_of(members, member):
    return len([other for other in members if other < member])


def leaves_of(members):
    return [leaf_of(member, members[member]) for member in sorted(members)]


def next_level(level):
    upper = []
    for at in range(0, len(level) - 1, 2):
        upper.append(hash_of([2, level[at], level[at + 1]]))
    if len(level) % 2 == 1:
        upper.append(level[-1])
    return upper


def root_of(members):
    level = leaves_of(members)
    if len(level) == 0:
        return hash_of([0])
    while len(level) > 1:
        level = next_level(level)
    return level[0]


def root_without_one(members, left_out):
    others = {}
    for member in members:
        if member != left_out:
            others[member] = members[member]
    return root_of(others)


def proof_of(members, member):
    """The steps from the leaf of a member to the root, each a (side, partner)."""
    steps = []
    level = leaves_of(members)
    at = index_of(members, member)
    while len(level) > 1:
        if at % 2 == 1:
            steps.append((0, level[at - 1]))
        elif at + 1 < len(level):
            steps.append((1, level[at + 1]))
        level = next_level(level)
        at = at // 2
    return steps


def led_to(leaf_value, steps):
    value = leaf_value
    for side, partner in steps:
        value = hash_of([2, partner, value]) if side == 0 else hash_of([2, value, partner])
    return value
