"""Which fields of a square are fixed. A field is (x, y), its column and its row."""

LAST_SIZE = 12


def is_size(v):
    return 1 <= v <= LAST_SIZE


def side(v):
    return 17 + 4 * v


def fields_near(x, y, reach, s):
    """The fields up to reach from (x, y); a corner's would go beyond the square's edge by one."""
    near = []
    for b in range(max(0, y - reach), min(s, y + reach + 1)):
        near.extend([(a, b) for a in range(max(0, x - reach), min(s, x + reach + 1))])
    return near


def corner_fields(s):
    return fields_near(3, 3, 4, s) + fields_near(s - 4, 3, 4, s) + fields_near(3, s - 4, 4, s)


def small_square_places(v):
    """The columns, and rows, that the small squares' centres are taken from."""
    if v == 1:
        return []
    k = v // 7 + 2
    step = 2 * ((4 * v + 2 * k + 1) // (2 * k - 2))
    return [6] + [side(v) - 7 - step * i for i in range(k - 1)]


def small_square_fields(v):
    s = side(v)
    places = small_square_places(v)
    found = []
    for b in places:
        for a in places:
            # At these three a corner stands already.
            if (a, b) not in ((6, 6), (6, s - 7), (s - 7, 6)):
                found.extend(fields_near(a, b, 2, s))
    return found


def ruler_fields(s):
    return [(6, i) for i in range(s)] + [(i, 6) for i in range(s)]


def level_fields(s):
    """Where the number of level and mask stands: two lists, of each bit's field from bit 0 on."""
    first = [(8, i) for i in range(6)] + [(8, 7), (8, 8), (7, 8)] + [(5 - i, 8) for i in range(6)]
    second = [(s - 1 - i, 8) for i in range(8)] + [(8, s - 7 + i) for i in range(7)]
    return [first, second]


def size_fields(v):
    """Where the size's number stands: two lists, of each bit's field from bit 0 on."""
    if v < 7:
        return [[], []]
    start = side(v) - 11
    first = [(start + i % 3, i // 3) for i in range(18)]
    return [first, [(y, x) for x, y in first]]


def fixed_fields(v):
    """A dict of all fixed fields, so that one which is several kinds of them counts once."""
    s = side(v)
    groups = [corner_fields(s), small_square_fields(v), ruler_fields(s)]
    groups = groups + level_fields(s) + size_fields(v) + [[(8, s - 8)]]
    fixed = {}
    for group in groups:
        for field in group:
            fixed[field] = True
    return fixed


def free_count(v):
    """How many fields aren't fixed."""
    s = side(v)
    return s * s - len(fixed_fields(v))
