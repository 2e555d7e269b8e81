import unittest

from fieldsquares.squares import check, times
from helper import PRODUCTS, VAST


def product_of_sums(a, b):
    """The product another way: first all of it, as long as it gets, then what's above 255 taken off from the top."""
    found = 0
    for i in range(8):
        found ^= (a << i) * (b >> i & 1)
    for i in range(14, 7, -1):
        found ^= (0x11D << i - 8) * (found >> i & 1)
    return found


class Products(unittest.TestCase):
    def test_every_pair_as_the_words_say_it(self):
        for a in range(256):
            inverse = PRODUCTS[a].index(1) if a else 0
            for b in range(256):
                self.assertEqual(times(a, b), [PRODUCTS[a][b], inverse], (a, b))

    def test_the_words_product_is_that_of_sums(self):
        for a in range(256):
            self.assertEqual(PRODUCTS[a], [product_of_sums(a, b) for b in range(256)], a)

    def test_by_hand(self):
        self.assertEqual(times(2, 127)[0], 254)
        self.assertEqual(times(2, 128)[0], 0x1D)
        self.assertEqual(times(2, 255)[0], 510 - 256 ^ 0x1D)
        self.assertEqual(times(128, 2)[0], 0x1D)
        self.assertEqual(times(4, 128)[0], 0x3A)
        self.assertEqual(times(3, 3)[0], 5)
        self.assertEqual([times(1, b)[0] for b in range(256)], list(range(256)))
        self.assertEqual([times(0, b) for b in range(256)], [[0, 0]] * 256)
        self.assertEqual([times(a, 0)[0] for a in range(256)], [0] * 256)


class MakesOne(unittest.TestCase):
    def test_the_second_number_makes_1_with_a(self):
        for a in range(1, 256):
            for b in (0, 1, a, 255):
                self.assertEqual(times(a, times(a, b)[1])[0], 1, (a, b))

    def test_it_is_0_for_0(self):
        for b in (0, 1, 2, 255):
            self.assertEqual(times(0, b), [0, 0])

    def test_by_hand(self):
        self.assertEqual(times(1, 7), [7, 1])
        # 1 is 2 times 8EH: 11CH, less 100H, and with 1DH.
        self.assertEqual(times(2, 1), [2, 0x8E])
        self.assertEqual(times(0x8E, 0), [0, 2])

    def test_two_checks_of_one_byte_are_such_products(self):
        for byte in range(256):
            self.assertEqual(check(2, [byte]), [2, times(byte, 3)[0], times(byte, 2)[0]])


class Refusals(unittest.TestCase):
    def test_one_is_above_255(self):
        for above in (256, 257, 511, 512, 65536, 2 ** 64 + 1, 2 ** 1023, VAST):
            for own in (0, 1, 2, 255):
                self.assertEqual(times(above, own), [-1], (above, own))
                self.assertEqual(times(own, above), [-1], (own, above))

    def test_both_are_above_255(self):
        for a in (256, 2 ** 64, VAST):
            for b in (256, 2 ** 64, VAST):
                self.assertEqual(times(a, b), [-1], (a, b))


if __name__ == "__main__":
    unittest.main()
