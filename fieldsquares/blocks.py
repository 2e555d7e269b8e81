"""How the bytes of a square are shared between data and checks."""

from fieldsquares.layout import free_count

# Both by level, and within it by size from 1 on.
CHECKS = (
    (7, 10, 15, 20, 26, 18, 20, 24, 30, 18, 20, 24),
    (10, 16, 26, 18, 24, 16, 18, 22, 22, 26, 30, 22),
    (13, 22, 18, 26, 18, 24, 18, 22, 20, 24, 28, 26),
    (17, 28, 22, 16, 22, 28, 26, 26, 24, 28, 24, 28),
)
BLOCKS = (
    (1, 1, 1, 1, 1, 2, 2, 2, 2, 4, 4, 4),
    (1, 1, 1, 2, 2, 4, 4, 4, 5, 5, 5, 8),
    (1, 1, 2, 2, 4, 4, 6, 6, 8, 8, 8, 10),
    (1, 1, 2, 4, 4, 4, 5, 6, 8, 8, 11, 11),
)


def is_level(l):
    return 0 <= l <= 3


def byte_count(v):
    """How many whole bytes stand in a square."""
    return free_count(v) // 8


def data_bits(v, l):
    return 8 * (byte_count(v) - BLOCKS[l][v - 1] * CHECKS[l][v - 1])
