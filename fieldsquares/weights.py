"""A square's weight. A line is a row or a column, as the number of its dark fields or of its light ones."""

from fieldsquares.binary import all_ones, ones

# The eleven fields both ways, and what each place with them weighs.
ELEVENS = (
    (1, 0, 1, 1, 1, 0, 1, 0, 0, 0, 0),
    (0, 0, 0, 0, 1, 0, 1, 1, 1, 0, 1),
)
ELEVEN_WEIGHT = 40


def run_weight(line):
    """What the longest runs of the line's own fields weigh."""
    # Here a field stands for each place where five begin: one for a run of five, one more for each field beyond.
    fives = line & line >> 1 & line >> 2 & line >> 3 & line >> 4
    starts = fives & ~(fives << 1)
    return ones(fives) + 2 * ones(starts)


def eleven_count(dark, light):
    """At how many places of a line the eleven fields stand; behind its end there's nothing dark nor light."""
    count = 0
    for eleven in ELEVENS:
        found = dark | light
        for i, colour in enumerate(eleven):
            found = found & (dark if colour == 1 else light) >> i
        count = count + ones(found)
    return count


def line_weight(s, dark):
    light = all_ones(s) ^ dark
    return run_weight(dark) + run_weight(light) + ELEVEN_WEIGHT * eleven_count(dark, light)


def block_weight(s, upper, lower):
    """What the two by two like fields of two rows weigh."""
    dark = upper & lower
    light = all_ones(s) ^ (upper | lower)
    return 3 * (ones(dark & dark >> 1) + ones(light & light >> 1))


def share_weight(s, rows):
    n = s * s
    dark = sum([ones(row) for row in rows])
    return 10 * (abs(20 * dark - 10 * n) // n)


def columns_of(s, rows):
    columns = [0] * s
    for y, row in enumerate(rows):
        for x in range(s):
            columns[x] = columns[x] | (row >> x & 1) << y
    return columns


def square_weight(s, rows):
    lines = sum([line_weight(s, line) for line in rows + columns_of(s, rows)])
    blocks = sum([block_weight(s, upper, lower) for upper, lower in zip(rows, rows[1:])])
    return lines + blocks + share_weight(s, rows)
