import unittest

from fieldsquares.squares import bits, least, room
from helper import DATA_BYTES, VAST, Untouchable, text

# The longest text of one sign that fits, by level and then by size, as publicly known for this code.
MOST = {
    "7": (
        (41, 77, 127, 187, 255, 322, 370, 461, 552, 652, 772, 883),
        (34, 63, 101, 149, 202, 255, 293, 365, 432, 513, 604, 691),
        (27, 48, 77, 111, 144, 178, 207, 259, 312, 364, 427, 489),
        (17, 34, 58, 82, 106, 139, 154, 202, 235, 288, 331, 374),
    ),
    "Q": (
        (25, 47, 77, 114, 154, 195, 224, 279, 335, 395, 468, 535),
        (20, 38, 61, 90, 122, 154, 178, 221, 262, 311, 366, 419),
        (16, 29, 47, 67, 87, 108, 125, 157, 189, 221, 259, 296),
        (10, 20, 35, 50, 64, 84, 93, 122, 143, 174, 200, 227),
    ),
    "q": (
        (17, 32, 53, 78, 106, 134, 154, 192, 230, 271, 321, 367),
        (14, 26, 42, 62, 84, 106, 122, 152, 180, 213, 251, 287),
        (11, 20, 32, 46, 60, 74, 86, 108, 130, 151, 177, 203),
        (7, 14, 24, 34, 44, 58, 64, 84, 98, 119, 137, 155),
    ),
}


class Fits(unittest.TestCase):
    def test_just_fits_and_just_does_not(self):
        for sign, by_level in MOST.items():
            for l, by_size in enumerate(by_level):
                for v, n in enumerate(by_size, start=1):
                    if n <= 400:
                        self.assertEqual(least(l, 1, text(sign * n)), [v], (sign, l, v))
                    if n < 400:
                        more = [v + 1] if v < 12 else [-2]
                        self.assertEqual(least(l, 1, text(sign * (n + 1))), more, (sign, l, v))

    def test_a_text_of_just_all_the_bits_fits(self):
        t = text("5" * 27)
        self.assertEqual(bits(1, t), room(1, 2))
        self.assertEqual(least(2, 1, t), [1])
        self.assertEqual(least(3, 1, t), [2])

    def test_the_cut_with_the_fewest_bits_counts(self):
        # Of bytes alone, size 1 has room for 11 with level 2 and for 14 with level 1.
        self.assertEqual(least(2, 1, text("ab12345678901")), [1])
        self.assertEqual(least(1, 1, text("ABCDEFGHIJKLabc")), [1])

    def test_the_empty_text_fits_at_once(self):
        for l in range(4):
            for v in range(1, 13):
                self.assertEqual(least(l, v, []), [v])


class NotBelow(unittest.TestCase):
    def test_a_size_above_the_least_that_would_do(self):
        t = text("hello")
        for v in range(1, 13):
            self.assertEqual(least(0, v, t), [v])

    def test_a_size_below_at_and_above_the_least(self):
        t = text("q" * 60)
        for v in range(1, 13):
            self.assertEqual(least(2, v, t), [max(v, 5)])

    def test_from_each_size_no_lesser_one_does(self):
        for l in range(4):
            for n in (1, 40, 98, 99, 120, 155, 231, 271):
                t = text("q" * n)
                fitting = [v for v in range(1, 13) if bits(v, t)[0] <= 8 * DATA_BYTES[v][l]]
                for v in range(1, 13):
                    left = [w for w in fitting if w >= v]
                    self.assertEqual(least(l, v, t), [min(left)] if left else [-2], (l, n, v))


class Refusals(unittest.TestCase):
    def test_none_fits(self):
        for v in (1, 9, 10, 12):
            self.assertEqual(least(3, v, [97] * 156), [-2])
            self.assertEqual(least(0, v, [97] * 368), [-2])
            self.assertEqual(least(0, v, [97] * 400), [-2])
            self.assertEqual(least(3, v, text("7" * 400)), [-2])

    def test_no_such_level(self):
        for l in (4, 5, 2 ** 64, VAST):
            self.assertEqual(least(l, 1, []), [-1])
            self.assertEqual(least(l, 12, text("a")), [-1])

    def test_no_such_size(self):
        for v in (0, 13, 2 ** 64 + 1, VAST):
            self.assertEqual(least(0, v, []), [-1])
            self.assertEqual(least(3, v, text("a")), [-1])

    def test_texts_too_long(self):
        for l in range(4):
            for n in (401, 65536):
                self.assertEqual(least(l, 1, text("7") * n), [-1])

    def test_minus_1_counts_ahead_of_minus_2(self):
        self.assertEqual(least(3, 12, [97] * 400), [-2])
        self.assertEqual(least(3, 12, [97] * 401), [-1])
        self.assertEqual(least(4, 12, [97] * 400), [-1])
        self.assertEqual(least(3, 13, [97] * 400), [-1])
        self.assertEqual(least(3, 0, [97] * 400), [-1])
        self.assertEqual(least(VAST, VAST, [97] * 65536), [-1])


class AsItWas(unittest.TestCase):
    def test_what_is_handed_in_is_not_changed(self):
        signs = text("ab12345678AB") * 10
        t = Untouchable(signs)
        least(1, 1, t)
        self.assertEqual(list(t), signs)

    def test_like_calls_answer_alike(self):
        t = text("q" * 60)
        first = least(2, 1, t)
        first.append(1)
        least(2, 9, t)
        least(3, 1, [97] * 400)
        self.assertEqual(least(2, 1, t), [5])

    def test_answer_is_a_list_of_whole_numbers(self):
        for answer in (least(0, 1, []), least(3, 1, [97] * 400), least(4, 1, [])):
            self.assertIs(type(answer), list)
            self.assertEqual([type(number) for number in answer], [int])


if __name__ == "__main__":
    unittest.main()
