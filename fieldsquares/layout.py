"""Which fields of a square are fixed, and the order of the others. A field is (x, y), its column and its row."""

from fieldsquares.marks import FIRST_SHOWN_SIZE, size_number

LAST_SIZE = 12


def is_size(v):
    return 1 <= v <= LAST_SIZE


def side(v):
    return 17 + 4 * v


def ring_colours(a, b, reach, light, s):
    """The fields up to reach from (a, b), each with its colour: dark (1), but as far apart as light says.

    A corner's would go beyond the square's edge by one.
    """
    found = []
    for y in range(max(0, b - reach), min(s, b + reach + 1)):
        for x in range(max(0, a - reach), min(s, a + reach + 1)):
            apart = max(abs(x - a), abs(y - b))
            found.append(((x, y), 0 if apart in light else 1))
    return found


def corner_colours(s):
    found = []
    for a, b in ((3, 3), (s - 4, 3), (3, s - 4)):
        found.extend(ring_colours(a, b, 4, (2, 4), s))
    return found


def small_square_places(v):
    """The columns, and rows, that the small squares' centres are taken from."""
    if v == 1:
        return []
    k = v // 7 + 2
    step = 2 * ((4 * v + 2 * k + 1) // (2 * k - 2))
    return [6] + [side(v) - 7 - step * i for i in range(k - 1)]


def small_square_colours(v):
    s = side(v)
    places = small_square_places(v)
    found = []
    for b in places:
        for a in places:
            # At these three a corner stands already.
            if (a, b) not in ((6, 6), (6, s - 7), (s - 7, 6)):
                found.extend(ring_colours(a, b, 2, (1,), s))
    return found


def ruler_colours(s):
    found = []
    for i in range(s):
        colour = 1 if i % 2 == 0 else 0
        found.extend([((6, i), colour), ((i, 6), colour)])
    return found


def level_fields(s):
    """Where the number of level and mask stands: two lists, of each bit's field from bit 0 on."""
    first = [(8, i) for i in range(6)] + [(8, 7), (8, 8), (7, 8)] + [(5 - i, 8) for i in range(6)]
    second = [(s - 1 - i, 8) for i in range(8)] + [(8, s - 7 + i) for i in range(7)]
    return [first, second]


def size_fields(v):
    """Where the size's number stands: two lists, of each bit's field from bit 0 on."""
    if v < FIRST_SHOWN_SIZE:
        return [[], []]
    start = side(v) - 11
    first = [(start + i % 3, i // 3) for i in range(18)]
    return [first, [(y, x) for x, y in first]]


def number_colours(fields, number):
    return [(field, number >> i & 1) for i, field in enumerate(fields)]


def fixed_colours(v, mark):
    """A dict of all fixed fields, each with its colour; mark is the number of level and mask."""
    s = side(v)
    found = corner_colours(s) + small_square_colours(v) + ruler_colours(s)
    for fields in level_fields(s):
        found.extend(number_colours(fields, mark))
    for fields in size_fields(v):
        found.extend(number_colours(fields, size_number(v)))
    found.append(((8, s - 8), 1))
    colours = {}
    for field, colour in found:
        # A field that is several kinds of fixed field is the first of them.
        colours.setdefault(field, colour)
    return colours


def free_count(v):
    """How many fields aren't fixed."""
    s = side(v)
    return s * s - len(fixed_colours(v, 0))


def free_fields(v):
    """The fields that aren't fixed, in their order."""
    s = side(v)
    fixed = fixed_colours(v, 0)
    found = []
    # Column 6 is a ruler from end to end, so the pairs behind it are moved by one.
    for turn, right in enumerate(list(range(s - 1, 7, -2)) + [5, 3, 1]):
        rows = list(range(s - 1, -1, -1)) if turn % 2 == 0 else list(range(s))
        for y in rows:
            found.extend([(x, y) for x in (right, right - 1) if (x, y) not in fixed])
    return found
