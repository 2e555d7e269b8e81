"""Texts as parts of three kinds, and the cut into parts that takes the fewest bits."""

from fieldsquares.binary import all_ones

LONGEST_TEXT = 400

# The kinds by their numbers.
DIGITS = 1
LETTERS = 2
BYTES = 4
KINDS = (1, 2, 4)

# The bytes that letters may have, in the order of their own numbers: 0 to 9, A to Z, and the nine signs.
LETTER_BYTES = (
    48, 49, 50, 51, 52, 53, 54, 55, 56, 57,
    65, 66, 67, 68, 69, 70, 71, 72, 73, 74, 75, 76, 77,
    78, 79, 80, 81, 82, 83, 84, 85, 86, 87, 88, 89, 90,
    32, 36, 37, 42, 43, 45, 46, 47, 58,
)

# How many bits a part's length has, by kind: in the sizes of width 0 and of width 1.
LENGTH_BITS = {1: (10, 12), 2: (9, 11), 4: (8, 16)}
WIDTHS = (0, 1)

# How many bits a group of no, one, two, .. bytes of a kind has; all groups but the last are of the most bytes.
GROUP_BITS = {1: (0, 4, 7, 10), 2: (0, 6, 11), 4: (0, 8)}

# A cut's cost is its bits times this, plus its parts, so that of like bits the fewest parts cost the least.
BIT_COST = 1024


def is_text(t):
    return len(t) <= LONGEST_TEXT


def width_of(v):
    """0 or 1: sizes of the same width have the same lengths of a part's length, and so the same cuts."""
    return 0 if v <= 9 else 1


def may_have(kind, byte):
    if kind == DIGITS:
        return 48 <= byte <= 57
    if kind == LETTERS:
        return byte in LETTER_BYTES
    return True


def group_size(kind):
    return len(GROUP_BITS[kind]) - 1


def body_bits(kind, n):
    """The bits of a part's n bytes, without its kind's number and its length."""
    whole = group_size(kind)
    return n // whole * GROUP_BITS[kind][whole] + GROUP_BITS[kind][n % whole]


def part_costs(kind, width, most):
    """What a whole part of 1, 2, .. bytes costs, up to most or to what its length can say."""
    length_bits = LENGTH_BITS[kind][width]
    longest = min(most, all_ones(length_bits))
    return [BIT_COST * (4 + length_bits + body_bits(kind, n)) + 1 for n in range(1, longest + 1)]


def all_part_costs(width, most):
    return [part_costs(kind, width, most) for kind in KINDS]


def least_costs(costs, t):
    """What the best cut costs of the text from each place on.

    It goes from the text's end: what is best behind a part doesn't depend on the parts before.
    """
    runs = [0] * len(KINDS)
    found = [0] * (len(t) + 1)
    for i in range(len(t) - 1, -1, -1):
        totals = []
        for k, kind in enumerate(KINDS):
            runs[k] = runs[k] + 1 if may_have(kind, t[i]) else 0
            totals.extend([cost + rest for cost, rest in zip(costs[k][:runs[k]], found[i + 1:])])
        found[i] = min(totals)
    return found


def fewest_bits(width, t):
    """The bits of the cut with the fewest."""
    return least_costs(all_part_costs(width, len(t)), t)[0] // BIT_COST


def run_length(kind, t, start):
    """How many bytes from a place on the kind may have."""
    end = start
    while end < len(t) and may_have(kind, t[end]):
        end = end + 1
    return end - start


def first_part(costs, rests, t, start):
    """The best cut's part at a place: of the kind with the least number that does, and the longest of it."""
    found = []
    for k, kind in enumerate(KINDS):
        longest = min(run_length(kind, t, start), len(costs[k]))
        left = rests[start]
        found.extend([(kind, n) for n in range(longest, 0, -1) if costs[k][n - 1] + rests[start + n] == left])
    return found[0]


def text_cut(width, t):
    """The text's cut, a list of (kind, how many bytes)."""
    costs = all_part_costs(width, len(t))
    rests = least_costs(costs, t)
    found = []
    start = 0
    while start < len(t):
        part = first_part(costs, rests, t, start)
        found.append(part)
        start = start + part[1]
    return found
