"""Texts as parts of three kinds, and the fewest bits that they take."""

LONGEST_TEXT = 400

# The kinds by their numbers.
DIGITS = 1
LETTERS = 2
BYTES = 4
KINDS = (1, 2, 4)

# The bytes that letters may have, in the order of their own numbers: 0 to 9, A to Z, and the nine signs.
LETTER_BYTES = (
    48, 49, 50, 51, 52, 53, 54, 55, 56, 57,
    65, 66, 67, 68, 69, 70, 71, 72, 73, 74, 75, 76, 77,
    78, 79, 80, 81, 82, 83, 84, 85, 86, 87, 88, 89, 90,
    32, 36, 37, 42, 43, 45, 46, 47, 58,
)

# How many bits a part's length has, by kind: in the sizes of width 0 and of width 1.
LENGTH_BITS = {1: (10, 12), 2: (9, 11), 4: (8, 16)}
WIDTHS = (0, 1)


def is_text(t):
    return len(t) <= LONGEST_TEXT


def width_of(v):
    """0 or 1: sizes of the same width have the same lengths of a part's length, and so the same cuts."""
    return 0 if v <= 9 else 1


def may_have(kind, byte):
    if kind == DIGITS:
        return 48 <= byte <= 57
    if kind == LETTERS:
        return byte in LETTER_BYTES
    return True


def body_bits(kind, n):
    """The bits of a part's n bytes, without its kind's number and its length."""
    if kind == DIGITS:
        return n // 3 * 10 + (0, 4, 7)[n % 3]
    if kind == LETTERS:
        return n // 2 * 11 + n % 2 * 6
    return 8 * n


def part_costs(kind, width, most):
    """The bits of a whole part of 1, 2, .. bytes, up to most or to what its length can say."""
    length_bits = LENGTH_BITS[kind][width]
    longest = min(most, (1 << length_bits) - 1)
    return [4 + length_bits + body_bits(kind, n) for n in range(1, longest + 1)]


def fewest_bits(width, t):
    """The bits of the cut with the fewest.

    It goes from the text's end: what is best behind a part doesn't depend on the parts before.
    """
    costs = [part_costs(kind, width, len(t)) for kind in KINDS]
    runs = [0] * len(KINDS)
    fewest = [0] * (len(t) + 1)
    for i in range(len(t) - 1, -1, -1):
        totals = []
        for k, kind in enumerate(KINDS):
            runs[k] = runs[k] + 1 if may_have(kind, t[i]) else 0
            totals.extend([cost + rest for cost, rest in zip(costs[k][:runs[k]], fewest[i + 1:])])
        fewest[i] = min(totals)
    return fewest[0]
