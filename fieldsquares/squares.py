"""The calls: each answers one list of whole numbers; a refusal is one number below 0 alone."""

from fieldsquares.blocks import data_bits, is_level
from fieldsquares.layout import LAST_SIZE, is_size
from fieldsquares.texts import WIDTHS, fewest_bits, is_text, width_of


def room(v, l):
    if not (is_size(v) and is_level(l)):
        return [-1]
    return [data_bits(v, l)]


def bits(v, t):
    if not (is_size(v) and is_text(t)):
        return [-1]
    return [fewest_bits(width_of(v), t)]


def least(l, v, t):
    if not (is_level(l) and is_size(v) and is_text(t)):
        return [-1]
    # Once for each width, not for each size: finding the bits is what takes long.
    needed = [fewest_bits(width, t) for width in WIDTHS]
    for w in range(v, LAST_SIZE + 1):
        if needed[width_of(w)] <= data_bits(w, l):
            return [w]
    return [-2]
