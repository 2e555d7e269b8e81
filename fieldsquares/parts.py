"""A text's parts as bits, and bits as a text's parts."""

from fieldsquares.binary import bits_bytes, bits_number, number_bits
from fieldsquares.texts import BYTES, GROUP_BITS, KINDS, LENGTH_BITS, LETTER_BYTES
from fieldsquares.texts import body_bits, group_size, text_cut

# In a group each byte is a number below this, by kind.
BASES = {1: 10, 2: 45, 4: 256}


def byte_number(kind, byte):
    # Letters begin with the digits, so these have the same numbers in both kinds.
    return byte if kind == BYTES else LETTER_BYTES.index(byte)


def number_byte(kind, number):
    return number if kind == BYTES else LETTER_BYTES[number]


def group_bits(kind, group):
    number = 0
    for byte in group:
        number = BASES[kind] * number + byte_number(kind, byte)
    return number_bits(number, GROUP_BITS[kind][len(group)])


def part_bits(kind, width, part):
    found = number_bits(kind, 4) + number_bits(len(part), LENGTH_BITS[kind][width])
    size = group_size(kind)
    for i in range(0, len(part), size):
        found.extend(group_bits(kind, part[i:i + size]))
    return found


def text_bits(width, t):
    """The bits of the text's cut."""
    found = []
    start = 0
    for kind, n in text_cut(width, t):
        found.extend(part_bits(kind, width, t[start:start + n]))
        start = start + n
    return found


def text_data(bits, count):
    """The count bytes of data that a text with these bits has."""
    ended = bits + [0] * min(4, 8 * count - len(bits))
    data = bits_bytes(ended + [0] * (-len(ended) % 8))
    return data + [0xEC if i % 2 == 0 else 0x11 for i in range(count - len(data))]


def read_group(kind, n, bits):
    """The group's n bytes, None if its number is above what they can say."""
    number = bits_number(bits)
    group = []
    for i in range(n):
        group.append(number_byte(kind, number % BASES[kind]))
        number = number // BASES[kind]
    return group[::-1] if number == 0 else None


def read_body(kind, n, bits):
    """A part's n bytes, None if one of its groups has no such number."""
    found = []
    start = 0
    while len(found) < n:
        size = min(group_size(kind), n - len(found))
        end = start + GROUP_BITS[kind][size]
        group = read_group(kind, size, bits[start:end])
        if group is None:
            return None
        found.extend(group)
        start = end
    return found


def read_text(width, bits):
    """The text that the bits say, None if they are no parts."""
    text = []
    at = 0
    while len(bits) - at >= 4:
        kind = bits_number(bits[at:at + 4])
        if kind == 0:
            return text
        if kind not in KINDS:
            return None
        start = at + 4 + LENGTH_BITS[kind][width]
        n = bits_number(bits[at + 4:start])
        at = start + body_bits(kind, n)
        if at > len(bits):
            return None
        part = read_body(kind, n, bits[start:at])
        if part is None:
            return None
        text.extend(part)
    return text
