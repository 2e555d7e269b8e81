"""The numbers that a square shows of itself: that of its level and mask, and that of its size."""

from fieldsquares.binary import ones

LEVEL_NUMBERS = (1, 0, 3, 2)
MASK_COUNT = 8

# How many bits the number of level and mask has.
LEVEL_BITS = 15

# Smaller squares don't show their size.
FIRST_SHOWN_SIZE = 7

# Any two numbers of level and mask differ in seven bits at least, so up to this there is one at most.
FARTHEST = 6


def is_level(l):
    return 0 <= l < len(LEVEL_NUMBERS)


def is_mask(m):
    return 0 <= m < MASK_COUNT


def lengthened(number, count, divisor):
    """The number with count bits more behind it, by which a copy with wrong bits is told from others."""
    more = number
    for i in range(count):
        over = more >> (count - 1) & 1
        more = 2 * more ^ over * divisor
    return (number << count) + more


def level_number(l, m):
    return lengthened(8 * LEVEL_NUMBERS[l] + m, 10, 0x537) ^ 0x5412


def size_number(v):
    return lengthened(v, 12, 0x1F25)


def level_and_mask(number, unknown):
    """8 times the level plus the mask that a copy of their number says, -1 if it says none.

    Of unknown the bits are 1 that aren't known.
    """
    for l in range(len(LEVEL_NUMBERS)):
        for m in range(MASK_COUNT):
            differing = (level_number(l, m) ^ number) & ~unknown
            if 2 * ones(differing) + ones(unknown) <= FARTHEST:
                return 8 * l + m
    return -1
