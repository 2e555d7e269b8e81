"""Bytes as numbers of a field of 256: their sum is the exclusive or. A row of them has a value at a number."""

# Behind 255 powers of 2 they begin anew: in a longer row two bytes would count alike.
LONGEST_ROW = 255
MOST_CHECKS = 64


def is_byte(a):
    return 0 <= a <= 255


def is_check_count(e):
    return 1 <= e <= MOST_CHECKS


def twice(a):
    return 2 * a ^ 0x11D if 2 * a > 255 else 2 * a


# By way of the powers of 2: each byte but 0 is one of them, so that for a product exponents are added.
# It is made anew for each call, as nothing is kept from one to the next.
class Products:
    def __init__(self):
        self.powers = [1]
        self.exponents = [0] * 256
        for k in range(1, 255):
            self.powers.append(twice(self.powers[k - 1]))
            self.exponents[self.powers[k]] = k

    def power(self, k):
        """2 to the k, which may be below 0."""
        return self.powers[k % 255]

    def times(self, a, b):
        if a == 0 or b == 0:
            return 0
        return self.powers[(self.exponents[a] + self.exponents[b]) % 255]

    def inverse(self, a):
        """The number that makes 1 with a; there is none for 0, which has 0 here."""
        return 0 if a == 0 else self.power(-self.exponents[a])

    def all_times(self, a, row):
        return [self.times(a, b) for b in row]


def row_value(products, row, x):
    value = 0
    for byte in row:
        value = products.times(value, x) ^ byte
    return value


def row_values(products, e, row):
    """The row's values at 2^0 to 2^(e-1): all are 0 if it is a word with e checks."""
    return [row_value(products, row, products.power(k)) for k in range(e)]


def with_factor(products, row, x):
    """The row times (1, x), both as polynomials.

    Read with the highest power first it is 0 at x besides, with the lowest first at what makes 1 with x.
    """
    return [a ^ b for a, b in zip(row + [0], [0] + products.all_times(x, row))]


def checks_of(products, e, row):
    """What a division by the polynomial that is 0 at 2^0 to 2^(e-1) leaves of the row with e bytes 0 behind it."""
    divisor = [1]
    for k in range(e):
        divisor = with_factor(products, divisor, products.power(k))
    left = [0] * e
    for byte in row:
        taken = products.all_times(byte ^ left[0], divisor[1:])
        left = [a ^ b for a, b in zip(left[1:] + [0], taken)]
    return left
