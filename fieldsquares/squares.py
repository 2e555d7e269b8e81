"""The calls: each answers one list of whole numbers; a refusal is one number below 0 alone."""

from fieldsquares.binary import bytes_bits
from fieldsquares.blocks import data_bits, square_bytes
from fieldsquares.drawing import byte_rows, drawn, lightest_mask
from fieldsquares.eightbits import LONGEST_ROW, Products, checks_of, is_byte, is_check_count
from fieldsquares.layout import LAST_SIZE, free_fields, is_size, side
from fieldsquares.marks import FIRST_SHOWN_SIZE, LEVEL_BITS
from fieldsquares.marks import is_level, is_mask, level_and_mask, level_number, size_number
from fieldsquares.mending import are_lost_places, differing, mended
from fieldsquares.parts import read_text, text_bits, text_data
from fieldsquares.reading import bytes_as_they_stand, lost_bytes, mended_data, said_by_copies, whole_rows
from fieldsquares.texts import WIDTHS, fewest_bits, is_text, width_of
from fieldsquares.weights import square_weight

# In the place of a mask, it asks for the one that makes the least weight.
LIGHTEST = 8


def room(v, l):
    if not (is_size(v) and is_level(l)):
        return [-1]
    return [data_bits(v, l)]


def bits(v, t):
    if not (is_size(v) and is_text(t)):
        return [-1]
    return [fewest_bits(width_of(v), t)]


def least(l, v, t):
    if not (is_level(l) and is_size(v) and is_text(t)):
        return [-1]
    # Once for each width, not for each size: finding the bits is what takes long.
    needed = [fewest_bits(width, t) for width in WIDTHS]
    for w in range(v, LAST_SIZE + 1):
        if needed[width_of(w)] <= data_bits(w, l):
            return [w]
    return [-2]


def make(v, l, m, t):
    if not (is_size(v) and is_level(l) and (is_mask(m) or m == LIGHTEST) and is_text(t)):
        return [-1]
    written = text_bits(width_of(v), t)
    if len(written) > data_bits(v, l):
        return [-2]
    data = text_data(written, data_bits(v, l) // 8)
    unmasked = byte_rows(v, square_bytes(v, l, data))
    mask = lightest_mask(v, l, unmasked) if m == LIGHTEST else m
    return [mask, side(v)] + drawn(v, l, mask, unmasked)


def read(v, d, u):
    if not is_size(v):
        return [-1]
    rows = whole_rows(side(v), d)
    unknown = whole_rows(side(v), u)
    said = said_by_copies(v, rows, unknown)
    if said is None:
        return [-2]
    lost = lost_bytes(v, unknown)
    outcome = mended_data(v, said[0], bytes_as_they_stand(v, said[1], rows), lost)
    if outcome is None:
        return [-3]
    text = read_text(width_of(v), bytes_bits(outcome[1]))
    if text is None:
        return [-4]
    return [0] + said + [outcome[0], len([byte for byte in lost if byte != 0]), len(text)] + text


def weigh(v, d):
    if not is_size(v):
        return [-1]
    return [square_weight(side(v), whole_rows(side(v), d))]


def format_of(l, m):
    if not (is_level(l) and is_mask(m)):
        return [-1]
    return [level_number(l, m)]


def nearest(x):
    if x.bit_length() > LEVEL_BITS:
        return [-1]
    # With nothing unknown, as far as a copy may be off is three bits; where none is that near, it says -1 already.
    return [level_and_mask(x, 0)]


def size(v):
    if not (is_size(v) and v >= FIRST_SHOWN_SIZE):
        return [-1]
    return [size_number(v)]


def place(v, i):
    if not is_size(v):
        return [-1]
    fields = free_fields(v)
    if i >= len(fields):
        return [-1]
    return list(fields[i])


def check(e, d):
    if not (is_check_count(e) and len(d) + e <= LONGEST_ROW):
        return [-1]
    return [e] + checks_of(Products(), e, d)


def mend(e, d, k):
    if not (is_check_count(e) and e <= len(d) <= LONGEST_ROW and are_lost_places(k, len(d))):
        return [-1]
    word = mended(Products(), e, d, k)
    if word is None:
        return [-2]
    # Unlike in read, lost bytes count too, where they are others.
    return [differing(d, word, []), len(word)] + word


def times(a, b):
    if not (is_byte(a) and is_byte(b)):
        return [-1]
    products = Products()
    return [products.times(a, b), products.inverse(a)]
