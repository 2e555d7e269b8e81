"""How the bytes of a square are shared between data and checks, and where they stand."""

from fieldsquares.eightbits import Products, checks_of
from fieldsquares.layout import free_count

# Both by level, and within it by size from 1 on.
CHECKS = (
    (7, 10, 15, 20, 26, 18, 20, 24, 30, 18, 20, 24),
    (10, 16, 26, 18, 24, 16, 18, 22, 22, 26, 30, 22),
    (13, 22, 18, 26, 18, 24, 18, 22, 20, 24, 28, 26),
    (17, 28, 22, 16, 22, 28, 26, 26, 24, 28, 24, 28),
)
BLOCKS = (
    (1, 1, 1, 1, 1, 2, 2, 2, 2, 4, 4, 4),
    (1, 1, 1, 2, 2, 4, 4, 4, 5, 5, 5, 8),
    (1, 1, 2, 2, 4, 4, 6, 6, 8, 8, 8, 10),
    (1, 1, 2, 4, 4, 4, 5, 6, 8, 8, 11, 11),
)


def check_count(v, l):
    """How many checks each block has."""
    return CHECKS[l][v - 1]


def byte_count(v):
    """How many whole bytes stand in a square."""
    return free_count(v) // 8


def data_bits(v, l):
    return 8 * (byte_count(v) - BLOCKS[l][v - 1] * check_count(v, l))


def data_lengths(v, l):
    """How many bytes of the data each block has."""
    count = byte_count(v)
    blocks = BLOCKS[l][v - 1]
    short = count // blocks - check_count(v, l)
    return [short if i < blocks - count % blocks else short + 1 for i in range(blocks)]


def block_places(v, l):
    """For each block, where among the square's bytes its own ones stand: its data, then its checks."""
    lengths = data_lengths(v, l)
    places = [[] for length in lengths]
    at = 0
    for i in range(max(lengths)):
        for k, length in enumerate(lengths):
            if i < length:
                places[k].append(at)
                at = at + 1
    for i in range(check_count(v, l)):
        for k in range(len(lengths)):
            places[k].append(at)
            at = at + 1
    return places


def square_bytes(v, l, data):
    """The data and their checks as they stand in the square."""
    products = Products()
    e = check_count(v, l)
    found = [0] * byte_count(v)
    start = 0
    for places in block_places(v, l):
        block = data[start:start + len(places) - e]
        start = start + len(block)
        for place, byte in zip(places, block + checks_of(products, e, block)):
            found[place] = byte
    return found
