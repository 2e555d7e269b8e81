"""What stands in a square's rows as they came, and in those of what isn't known."""

from fieldsquares.binary import all_ones, bits_bytes
from fieldsquares.blocks import block_places, check_count
from fieldsquares.drawing import mask_rows, rows_sum
from fieldsquares.eightbits import Products
from fieldsquares.layout import free_fields, level_fields, side
from fieldsquares.marks import level_and_mask
from fieldsquares.mending import differing, mended


def whole_rows(s, rows):
    """As many rows, of as many columns, as the square has: missing rows are 0, and what's too much is left out."""
    kept = [row & all_ones(s) for row in rows[:s]]
    return kept + [0] * (s - len(kept))


def bits_at(rows, fields):
    return [rows[y] >> x & 1 for x, y in fields]


def number_at(rows, fields):
    """The number whose bits, from bit 0 on, stand at these fields."""
    number = 0
    for i, bit in enumerate(bits_at(rows, fields)):
        number = number | bit << i
    return number


def said_by_copies(v, rows, unknown):
    """Level, mask, and the copy that says them, the first one if both do; None if neither does."""
    for k, fields in enumerate(level_fields(side(v))):
        said = level_and_mask(number_at(rows, fields), number_at(unknown, fields))
        if said >= 0:
            return [said // 8, said % 8, k]
    return None


def bytes_as_they_stand(v, m, rows):
    return bits_bytes(bits_at(rows_sum(rows, mask_rows(v, m)), free_fields(v)))


def lost_bytes(v, unknown):
    """For each byte of the square, 0 if all its fields are known."""
    return bits_bytes(bits_at(unknown, free_fields(v)))


def mended_data(v, l, came, lost):
    """How many bytes that weren't lost were mended, and the data; None if a block can't be mended."""
    products = Products()
    e = check_count(v, l)
    changes = 0
    data = []
    for places in block_places(v, l):
        row = [came[place] for place in places]
        gone = [i for i, place in enumerate(places) if lost[place] != 0]
        word = mended(products, e, row, gone)
        if word is None:
            return None
        changes = changes + differing(row, word, gone)
        data.extend(word[:len(word) - e])
    return (changes, data)
