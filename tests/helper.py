"""What several tests need: inputs, and slow but plain ways to the same answers."""

import itertools

VAST = 2 ** 1024 - 1

# Bytes of data by size, then by level, as they are publicly known for this code.
DATA_BYTES = {
    1: (19, 16, 13, 9), 2: (34, 28, 22, 16), 3: (55, 44, 34, 26), 4: (80, 64, 48, 36),
    5: (108, 86, 62, 46), 6: (136, 108, 76, 60), 7: (156, 124, 88, 66), 8: (194, 154, 110, 86),
    9: (232, 182, 132, 100), 10: (274, 216, 154, 122), 11: (324, 254, 180, 140), 12: (370, 290, 206, 158),
}

ALLOWED = {
    "digits": [ord(sign) for sign in "0123456789"],
    "letters": [ord(sign) for sign in "0123456789ABCDEFGHIJKLMNOPQRSTUVWXYZ $%*+-./:"],
    "bytes": list(range(256)),
}


def text(signs):
    return [ord(sign) for sign in signs]


class Untouchable(list):
    """A list that raises an error at every try to change it, even for a while."""

    def refuse(self, *args, **kwargs):
        raise AssertionError("what was handed in was changed")

    __setitem__ = __delitem__ = __iadd__ = __imul__ = refuse
    append = extend = insert = pop = remove = clear = sort = reverse = refuse


def length_bits(kind, v):
    return {"digits": (10, 12), "letters": (9, 11), "bytes": (8, 16)}[kind][v >= 10]


def next_byte_bits(kind, before):
    """What a byte adds to a part of its kind that has had so many before."""
    by_turns = {"digits": (4, 3, 3), "letters": (6, 5), "bytes": (8,)}[kind]
    return by_turns[before % len(by_turns)]


def bits_of_all_cuts(v, t):
    """The bits of every cut of the text, one by one: all first parts with all cuts of what's behind them."""
    if not t:
        return [0]
    found = []
    for kind in ALLOWED:
        part = 4 + length_bits(kind, v)
        for n in range(1, len(t) + 1):
            if t[n - 1] not in ALLOWED[kind] or n >= 2 ** length_bits(kind, v):
                break
            part += next_byte_bits(kind, n - 1)
            found.extend([part + rest for rest in bits_of_all_cuts(v, t[n:])])
    return found


def fewest_step_by_step(v, t):
    """The fewest bits byte by byte from the front, with every (kind, length so far) kept in mind."""
    best, states = 0, {}
    for byte in t:
        following = {}
        for kind, allowed in ALLOWED.items():
            if byte in allowed:
                following[kind, 1] = best + 4 + length_bits(kind, v) + next_byte_bits(kind, 0)
        for (kind, n), cost in states.items():
            if byte in ALLOWED[kind] and n + 1 < 2 ** length_bits(kind, v):
                following[kind, n + 1] = cost + next_byte_bits(kind, n)
        states, best = following, min(following.values())
    return best


# From here on: what make, read and weigh are held against. Tables are as they are publicly known for this code.

CENTRES = {
    1: [], 2: [6, 18], 3: [6, 22], 4: [6, 26], 5: [6, 30], 6: [6, 34], 7: [6, 22, 38],
    8: [6, 24, 42], 9: [6, 26, 46], 10: [6, 28, 50], 11: [6, 30, 54], 12: [6, 32, 58],
}

LEVEL_MASK_NUMBERS = (
    (0x77C4, 0x72F3, 0x7DAA, 0x789D, 0x662F, 0x6318, 0x6C41, 0x6976),
    (0x5412, 0x5125, 0x5E7C, 0x5B4B, 0x45F9, 0x40CE, 0x4F97, 0x4AA0),
    (0x355F, 0x3068, 0x3F31, 0x3A06, 0x24B4, 0x2183, 0x2EDA, 0x2BED),
    (0x1689, 0x13BE, 0x1CE7, 0x19D0, 0x0762, 0x0255, 0x0D0C, 0x083B),
)

SIZE_NUMBERS = {7: 0x07C94, 8: 0x085BC, 9: 0x09A99, 10: 0x0A4D3, 11: 0x0BBF6, 12: 0x0C762}

# By size and level: checks of each block, then the blocks as (how many, bytes of data in each).
BLOCK_TABLE = {
    1: ((7, (1, 19)), (10, (1, 16)), (13, (1, 13)), (17, (1, 9))),
    2: ((10, (1, 34)), (16, (1, 28)), (22, (1, 22)), (28, (1, 16))),
    3: ((15, (1, 55)), (26, (1, 44)), (18, (2, 17)), (22, (2, 13))),
    4: ((20, (1, 80)), (18, (2, 32)), (26, (2, 24)), (16, (4, 9))),
    5: ((26, (1, 108)), (24, (2, 43)), (18, (2, 15), (2, 16)), (22, (2, 11), (2, 12))),
    6: ((18, (2, 68)), (16, (4, 27)), (24, (4, 19)), (28, (4, 15))),
    7: ((20, (2, 78)), (18, (4, 31)), (18, (2, 14), (4, 15)), (26, (4, 13), (1, 14))),
    8: ((24, (2, 97)), (22, (2, 38), (2, 39)), (22, (4, 18), (2, 19)), (26, (4, 14), (2, 15))),
    9: ((30, (2, 116)), (22, (3, 36), (2, 37)), (20, (4, 16), (4, 17)), (24, (4, 12), (4, 13))),
    10: ((18, (2, 68), (2, 69)), (26, (4, 43), (1, 44)), (24, (6, 19), (2, 20)), (28, (6, 15), (2, 16))),
    11: ((20, (4, 81)), (30, (1, 50), (4, 51)), (28, (4, 22), (4, 23)), (24, (3, 12), (8, 13))),
    12: ((24, (2, 92), (2, 93)), (22, (6, 36), (2, 37)), (26, (4, 20), (6, 21)), (28, (7, 14), (4, 15))),
}

# With the frame that is light around it.
CORNER = (
    ".........",
    ".#######.",
    ".#.....#.",
    ".#.###.#.",
    ".#.###.#.",
    ".#.###.#.",
    ".#.....#.",
    ".#######.",
    ".........",
)
SMALL_SQUARE = ("#####", "#...#", "#.#.#", "#...#", "#####")

TURNS = (
    lambda row, column: (row + column) % 2 == 0,
    lambda row, column: row % 2 == 0,
    lambda row, column: column % 3 == 0,
    lambda row, column: (row + column) % 3 == 0,
    lambda row, column: (row // 2 + column // 3) % 2 == 0,
    lambda row, column: row * column % 2 == 0 and row * column % 3 == 0,
    lambda row, column: (row * column % 2 + row * column % 3) % 2 == 0,
    lambda row, column: ((row + column) % 2 + row * column % 3) % 2 == 0,
)

KIND_NUMBERS = {"digits": 1, "letters": 2, "bytes": 4}
ALL_SIZES_AND_LEVELS = [(v, l) for v in range(1, 13) for l in range(4)]


class Sequence:
    """Numbers that look random and are the same in each run."""

    def __init__(self, seed):
        self.state = seed

    def below(self, n):
        self.state = (self.state * 6364136223846793005 + 1442695040888963407) % 2 ** 64
        return (self.state >> 33) % n

    def some(self, things, count):
        left = list(things)
        return sorted(left.pop(self.below(len(left))) for _ in range(count))

    def bytes(self, n):
        return [self.below(256) for _ in range(n)]


def side_of(v):
    return 17 + 4 * v


def dark(rows, x, y):
    return rows[y] >> x & 1


def flipped(rows, fields):
    changed = list(rows)
    for x, y in fields:
        changed[y] ^= 1 << x
    return changed


def rows_with(v, fields):
    return flipped([0] * side_of(v), fields)


def level_mask_copies(v):
    """The fields of the two copies, of each from bit 0 on."""
    s = side_of(v)
    first = [(8, 0), (8, 1), (8, 2), (8, 3), (8, 4), (8, 5), (8, 7), (8, 8), (7, 8)]
    first += [(5, 8), (4, 8), (3, 8), (2, 8), (1, 8), (0, 8)]
    second = [(s - 1, 8), (s - 2, 8), (s - 3, 8), (s - 4, 8), (s - 5, 8), (s - 6, 8), (s - 7, 8), (s - 8, 8)]
    second += [(8, s - 7), (8, s - 6), (8, s - 5), (8, s - 4), (8, s - 3), (8, s - 2), (8, s - 1)]
    return first, second


def fixed_picture(v, l, m):
    """A dict of the fixed fields' colours, painted from the last kind of field to the first, one over another."""
    s = side_of(v)
    picture = {(8, s - 8): 1}
    if v >= 7:
        for i in range(18):
            bit = SIZE_NUMBERS[v] >> i & 1
            picture[s - 11 + i % 3, i // 3] = picture[i // 3, s - 11 + i % 3] = bit
    for fields in level_mask_copies(v):
        for i, field in enumerate(fields):
            picture[field] = LEVEL_MASK_NUMBERS[l][m] >> i & 1
    for i in range(s):
        picture[6, i] = picture[i, 6] = 1 - i % 2
    for x in CENTRES[v]:
        for y in CENTRES[v]:
            if not (x < 8 and y < 8 or x < 8 and y > s - 9 or x > s - 9 and y < 8):
                paint(picture, SMALL_SQUARE, x - 2, y - 2)
    for left, top in ((-1, -1), (s - 8, -1), (-1, s - 8)):
        paint(picture, CORNER, left, top)
    return {(x, y): bit for (x, y), bit in picture.items() if 0 <= x < s and 0 <= y < s}


def paint(picture, drawn, left, top):
    for y, line in enumerate(drawn):
        for x, sign in enumerate(line):
            picture[left + x, top + y] = int(sign == "#")


def walk(v):
    """The fields that aren't fixed, in the order: up and down, two columns wide."""
    s = side_of(v)
    fixed = fixed_picture(v, 0, 0)
    found, x, y, step = [], s - 1, s - 1, -1
    while x > 0:
        found += [field for field in ((x, y), (x - 1, y)) if field not in fixed]
        y += step
        if not 0 <= y < s:
            y, step, x = y - step, -step, x - 2
            if x == 6:
                x = 5
    return found


def byte_fields(v):
    """For each byte of the square its eight fields, the highest bit first; and the fields that are left."""
    order = walk(v)
    whole = len(order) // 8
    return [order[8 * i:8 * i + 8] for i in range(whole)], order[8 * whole:]


def unmasked(rows, m, field):
    x, y = field
    return dark(rows, x, y) ^ TURNS[m](y, x)


def bytes_off(v, m, rows):
    found = []
    for fields in byte_fields(v)[0]:
        found.append(int("".join(str(unmasked(rows, m, field)) for field in fields), 2))
    return found


def block_lengths(v, l):
    """How many bytes of data each block has, and how many checks all have."""
    e, *groups = BLOCK_TABLE[v][l]
    return [length for count, length in groups for _ in range(count)], e


def block_numbers(v, l):
    """For each byte of the square, the block and the place in it that it has."""
    lengths, e = block_lengths(v, l)
    data = [(i, k) for i in range(max(lengths)) for k in range(len(lengths)) if i < lengths[k]]
    checks = [(i, k) for i in range(e) for k in range(len(lengths))]
    return [(k, i) for i, k in data] + [(k, lengths[k] + i) for i, k in checks]


def blocks_off(v, l, stream):
    """The blocks, data and then checks, of the bytes as they stand."""
    lengths, e = block_lengths(v, l)
    blocks = [[None] * (length + e) for length in lengths]
    for (k, i), byte in zip(block_numbers(v, l), stream):
        blocks[k][i] = byte
    return blocks


def data_off(v, l, m, rows):
    lengths, _ = block_lengths(v, l)
    blocks = blocks_off(v, l, bytes_off(v, m, rows))
    return [byte for block, length in zip(blocks, lengths) for byte in block[:length]]


def times(a, b):
    """The product, by the document's words."""
    total = 0
    while b:
        total ^= a if b & 1 else 0
        a = 2 * a if 2 * a < 256 else (2 * a - 256) ^ 0x1D
        b >>= 1
    return total


PRODUCTS = [[times(a, b) for b in range(256)] for a in range(256)]


POWERS = [1]


def power_of_2(k):
    while len(POWERS) <= k:
        POWERS.append(PRODUCTS[2][POWERS[-1]])
    return POWERS[k]


def value_at(row, x):
    value = 0
    for byte in row:
        value = PRODUCTS[value][x] ^ byte
    return value


def is_word(row, e):
    return all(value_at(row, power_of_2(k)) == 0 for k in range(e))


def solved(rows):
    """The one solution of equations over bytes, each a row of factors and what they make; None if there is none."""
    rows = [list(row) for row in rows]
    count = len(rows[0]) - 1
    for column in range(count):
        lead = next(i for i in range(column, len(rows)) if rows[i][column])
        rows[column], rows[lead] = rows[lead], rows[column]
        inverse = PRODUCTS[rows[column][column]].index(1)
        rows[column] = [PRODUCTS[inverse][a] for a in rows[column]]
        for i, row in enumerate(rows):
            if i != column and row[column]:
                rows[i] = [a ^ PRODUCTS[row[column]][b] for a, b in zip(row, rows[column])]
    return None if any(row[count] for row in rows[count:]) else [row[count] for row in rows[:count]]


def filled(row, e, places):
    """The word with e checks that the row becomes with other bytes at these places, at most e; None if none does."""
    powers = [[power_of_2((len(row) - 1 - place) * k) for place in places] for k in range(e)]
    changes = solved([powers[k] + [value_at(row, power_of_2(k))] for k in range(e)])
    if changes is None:
        return None
    word = list(row)
    for place, change in zip(places, changes):
        word[place] ^= change
    return word


def mended_by_trying(row, e, lost):
    """What a row is mended to: every choice of as many wrong places as may be is tried."""
    if len(lost) > e:
        return None
    kept = [place for place in range(len(row)) if place not in lost]
    for wrong in itertools.combinations(kept, (e - len(lost)) // 2):
        word = filled(row, e, sorted(list(lost) + list(wrong)))
        if word is not None:
            return word
    return None


def checks_of_row(row, e):
    return filled(list(row) + [0] * e, e, list(range(len(row), len(row) + e)))[len(row):]


def square_of_data(v, l, m, data):
    """The rows of a square with any data, so that there may be such as no text has."""
    lengths, e = block_lengths(v, l)
    blocks, start = [], 0
    for length in lengths:
        block = data[start:start + length]
        blocks.append(block + checks_of_row(block, e))
        start += length
    stream = [blocks[k][i] for k, i in block_numbers(v, l)]
    return square_of_bytes(v, l, m, stream)


def square_of_bytes(v, l, m, stream):
    fields, left = byte_fields(v)
    picture = fixed_picture(v, l, m)
    for byte, own in zip(stream, fields):
        for i, (x, y) in enumerate(own):
            picture[x, y] = (byte >> (7 - i) & 1) ^ TURNS[m](y, x)
    for x, y in left:
        picture[x, y] = int(TURNS[m](y, x))
    return rows_with(v, [field for field, bit in picture.items() if bit])


def written(number, count):
    """A number's bits as a text of 0 and 1."""
    return f"{number:0{count}b}"


def bits_of_part(kind, v, part):
    found = written(KIND_NUMBERS[kind], 4) + written(len(part), length_bits(kind, v))
    if kind == "digits":
        for i in range(0, len(part), 3):
            group = "".join(chr(byte) for byte in part[i:i + 3])
            found += written(int(group), (4, 7, 10)[len(group) - 1])
    elif kind == "letters":
        numbers = [ALLOWED["letters"].index(byte) for byte in part]
        for i in range(0, len(numbers) - 1, 2):
            found += written(45 * numbers[i] + numbers[i + 1], 11)
        if len(numbers) % 2:
            found += written(numbers[-1], 6)
    else:
        found += "".join(written(byte, 8) for byte in part)
    return found


def bits_of_cut(v, t, cut):
    found, start = "", 0
    for kind, n in cut:
        found += bits_of_part(kind, v, t[start:start + n])
        start += n
    return found


def all_fewest_cuts(v, t):
    """Every cut with the fewest bits, each a list of (kind, length), and these bits."""
    best = {len(t): (0, [[]])}
    for start in range(len(t) - 1, -1, -1):
        found = []
        for kind in ALLOWED:
            cost = 4 + length_bits(kind, v)
            for n in range(1, len(t) - start + 1):
                if t[start + n - 1] not in ALLOWED[kind] or n >= 2 ** length_bits(kind, v):
                    break
                cost += next_byte_bits(kind, n - 1)
                found.append((cost + best[start + n][0], kind, n))
        fewest = min(cost for cost, kind, n in found)
        cuts = [[(kind, n)] + rest for cost, kind, n in found if cost == fewest for rest in best[start + n][1]]
        best[start] = fewest, cuts
    return best[0][1], best[0][0]


def cut_of(v, t):
    """The text's cut, chosen among all with the fewest bits."""
    cuts, _ = all_fewest_cuts(v, t)
    return min(cuts, key=lambda cut: (len(cut), [(KIND_NUMBERS[kind], -n) for kind, n in cut]))


def data_of_bits(v, l, bits):
    """The data with these bits: up to four bits 0, then up to a whole byte, then EC and 11 by turns."""
    count = DATA_BYTES[v][l]
    bits += "0" * min(4, 8 * count - len(bits))
    while len(bits) % 8:
        bits += "0"
    data = [int(bits[i:i + 8], 2) for i in range(0, len(bits), 8)]
    while len(data) < count:
        data += [0xEC, 0x11]
    return data[:count]


def lines_of(v, rows):
    """All rows, then all columns, as texts of 0 and 1."""
    s = side_of(v)
    across = ["".join(str(dark(rows, x, y)) for x in range(s)) for y in range(s)]
    return across + ["".join(line[x] for line in across) for x in range(s)]


def weight_terms(v, rows):
    """Runs, two by two, eleven fields, and the share of dark ones: each counted by the document's words."""
    s = side_of(v)
    lines = lines_of(v, rows)
    runs = elevens = blocks = 0
    for line in lines:
        for _, run in itertools.groupby(line):
            n = len(list(run))
            runs += 3 + n - 5 if n >= 5 else 0
        for i in range(s - 10):
            elevens += 40 if line[i:i + 11] in ("10111010000", "00001011101") else 0
    for y in range(s - 1):
        for x in range(s - 1):
            blocks += 3 if len({lines[b][a] for a in (x, x + 1) for b in (y, y + 1)}) == 1 else 0
    dark_count = sum(line.count("1") for line in lines[:s])
    return runs, blocks, elevens, 10 * (abs(20 * dark_count - 10 * s * s) // (s * s))


# From here on: squares as they come, with wrong and unknown fields.

def answer_of(l, m, t, copy=0, wrong=0, lost=0):
    """What read answers."""
    return [0, l, m, copy, wrong, lost, len(t)] + list(t)


def fields_by_block(v, l):
    """For each block, the eight fields of each of its bytes."""
    fields, _ = byte_fields(v)
    lengths, e = block_lengths(v, l)
    found = [[None] * (length + e) for length in lengths]
    for own, (k, i) in zip(fields, block_numbers(v, l)):
        found[k][i] = own
    return found


class Damage:
    """A square and rows of what isn't known, to be made worse."""

    def __init__(self, v, l, rows, seed=1):
        self.blocks = fields_by_block(v, l)
        self.rows = list(rows)
        self.unknown = [0] * side_of(v)
        self.sequence = Sequence(seed)

    def spoil(self, k, wrong, lost):
        """So many bytes of block k wrong, and so many others lost: one field each, or several."""
        own = self.blocks[k]
        places = self.sequence.some(range(len(own)), wrong + lost)
        chosen = self.sequence.some(places, wrong)
        for place in places:
            some = self.sequence.some(own[place], 1 + self.sequence.below(8))
            if place in chosen:
                self.rows = flipped(self.rows, some)
            else:
                self.unknown = flipped(self.unknown, some)
                self.rows = flipped(self.rows, self.sequence.some(own[place], self.sequence.below(9)))
