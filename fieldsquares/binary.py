"""Numbers and bytes as lists of bits, the highest bit first."""


def number_bits(number, count):
    """The lowest count bits of a number."""
    return [number >> i & 1 for i in range(count - 1, -1, -1)]


def bits_number(bits):
    number = 0
    for bit in bits:
        number = 2 * number + bit
    return number


def bytes_bits(row):
    bits = []
    for byte in row:
        bits.extend(number_bits(byte, 8))
    return bits


def bits_bytes(bits):
    """As many bytes as are whole."""
    return [bits_number(bits[8 * i:8 * i + 8]) for i in range(len(bits) // 8)]


def all_ones(count):
    """The number whose lowest count bits are 1."""
    return (1 << count) - 1


def ones(number):
    """How many bits of a number are 1."""
    count = 0
    while number > 0:
        # This takes the lowest 1 away, so that there are as many turns as ones.
        number = number & (number - 1)
        count = count + 1
    return count
