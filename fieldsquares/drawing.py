"""Squares as rows: of each row the number whose bit x is 1 if the field in column x is dark."""

from fieldsquares.binary import bytes_bits
from fieldsquares.layout import fixed_colours, free_fields, side
from fieldsquares.marks import MASK_COUNT, level_number
from fieldsquares.masks import turns
from fieldsquares.weights import square_weight


def rows_of(s, fields):
    """The rows of a square with just these fields dark."""
    rows = [0] * s
    for x, y in fields:
        rows[y] = rows[y] | 1 << x
    return rows


def rows_sum(one, other):
    """The rows where a field is dark if it is in just one of the two."""
    return [a ^ b for a, b in zip(one, other)]


def byte_rows(v, row):
    """The bytes alone, fixed fields and those that are left light."""
    bits = bytes_bits(row)
    return rows_of(side(v), [field for field, bit in zip(free_fields(v), bits) if bit == 1])


def mask_rows(v, m):
    """The fields that the mask turns, of those that aren't fixed."""
    return rows_of(side(v), [(x, y) for x, y in free_fields(v) if turns(m, x, y)])


def fixed_rows(v, l, m):
    colours = fixed_colours(v, level_number(l, m))
    return rows_of(side(v), [field for field, colour in colours.items() if colour == 1])


def drawn(v, l, m, unmasked):
    return rows_sum(rows_sum(unmasked, mask_rows(v, m)), fixed_rows(v, l, m))


def lightest_mask(v, l, unmasked):
    weights = [square_weight(side(v), drawn(v, l, m, unmasked)) for m in range(MASK_COUNT)]
    return weights.index(min(weights))
