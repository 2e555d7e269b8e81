"""What several tests need: inputs, and slow but plain ways to the same answers."""

VAST = 2 ** 1024 - 1

# Bytes of data by size, then by level, as they are publicly known for this code.
DATA_BYTES = {
    1: (19, 16, 13, 9), 2: (34, 28, 22, 16), 3: (55, 44, 34, 26), 4: (80, 64, 48, 36),
    5: (108, 86, 62, 46), 6: (136, 108, 76, 60), 7: (156, 124, 88, 66), 8: (194, 154, 110, 86),
    9: (232, 182, 132, 100), 10: (274, 216, 154, 122), 11: (324, 254, 180, 140), 12: (370, 290, 206, 158),
}

ALLOWED = {
    "digits": [ord(sign) for sign in "0123456789"],
    "letters": [ord(sign) for sign in "0123456789ABCDEFGHIJKLMNOPQRSTUVWXYZ $%*+-./:"],
    "bytes": list(range(256)),
}


def text(signs):
    return [ord(sign) for sign in signs]


class Untouchable(list):
    """A list that raises an error at every try to change it, even for a while."""

    def refuse(self, *args, **kwargs):
        raise AssertionError("what was handed in was changed")

    __setitem__ = __delitem__ = __iadd__ = __imul__ = refuse
    append = extend = insert = pop = remove = clear = sort = reverse = refuse


def length_bits(kind, v):
    return {"digits": (10, 12), "letters": (9, 11), "bytes": (8, 16)}[kind][v >= 10]


def next_byte_bits(kind, before):
    """What a byte adds to a part of its kind that has had so many before."""
    by_turns = {"digits": (4, 3, 3), "letters": (6, 5), "bytes": (8,)}[kind]
    return by_turns[before % len(by_turns)]


def bits_of_all_cuts(v, t):
    """The bits of every cut of the text, one by one: all first parts with all cuts of what's behind them."""
    if not t:
        return [0]
    found = []
    for kind in ALLOWED:
        part = 4 + length_bits(kind, v)
        for n in range(1, len(t) + 1):
            if t[n - 1] not in ALLOWED[kind] or n >= 2 ** length_bits(kind, v):
                break
            part += next_byte_bits(kind, n - 1)
            found.extend([part + rest for rest in bits_of_all_cuts(v, t[n:])])
    return found


def fewest_step_by_step(v, t):
    """The fewest bits byte by byte from the front, with every (kind, length so far) kept in mind."""
    best, states = 0, {}
    for byte in t:
        following = {}
        for kind, allowed in ALLOWED.items():
            if byte in allowed:
                following[kind, 1] = best + 4 + length_bits(kind, v) + next_byte_bits(kind, 0)
        for (kind, n), cost in states.items():
            if byte in ALLOWED[kind] and n + 1 < 2 ** length_bits(kind, v):
                following[kind, n + 1] = cost + next_byte_bits(kind, n)
        states, best = following, min(following.values())
    return best
