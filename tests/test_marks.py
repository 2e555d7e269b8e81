import itertools
import unittest

from fieldsquares.squares import format_of, make, nearest, size
from helper import LEVEL_MASK_NUMBERS, SIZE_NUMBERS, VAST, dark, level_mask_copies, side_of, text

LEVELS_AND_MASKS = [(l, m) for l in range(4) for m in range(8)]
NUMBERS = [LEVEL_MASK_NUMBERS[l][m] for l, m in LEVELS_AND_MASKS]


def differing(a, b):
    return bin(a ^ b).count("1")


def by_the_words(start, count, divisor):
    """The bits more, as the document says them: count times twice it, exclusive-or'ed if the bit was 1 before."""
    found = start
    for _ in range(count):
        was_1 = found & 1 << count - 1
        found *= 2
        if was_1:
            found ^= divisor
    return found


class Format(unittest.TestCase):
    def test_all_levels_and_masks(self):
        for l, m in LEVELS_AND_MASKS:
            self.assertEqual(format_of(l, m), [LEVEL_MASK_NUMBERS[l][m]], (l, m))

    def test_by_the_document_s_words(self):
        for l, m in LEVELS_AND_MASKS:
            d = 8 * (1, 0, 3, 2)[l] + m
            self.assertEqual(format_of(l, m), [1024 * d + by_the_words(d, 10, 0x537) ^ 0x5412], (l, m))

    def test_any_two_differ_in_seven_bits_at_least(self):
        numbers = [format_of(l, m)[0] for l, m in LEVELS_AND_MASKS]
        self.assertTrue(all(0 <= number < 2 ** 15 for number in numbers))
        self.assertEqual(min(differing(a, b) for a, b in itertools.combinations(numbers, 2)), 7)

    def test_they_are_those_that_squares_show(self):
        for v in (1, 6, 12):
            for l, m in LEVELS_AND_MASKS:
                rows = make(v, l, m, text("abc"))[2:]
                for fields in level_mask_copies(v):
                    shown = sum(dark(rows, x, y) << i for i, (x, y) in enumerate(fields))
                    self.assertEqual(format_of(l, m), [shown], (v, l, m))

    def test_no_such_level_or_mask(self):
        for l in (4, 5, 8, 2 ** 64, VAST):
            for m in (0, 7, 8, VAST):
                self.assertEqual(format_of(l, m), [-1], (l, m))
        for m in (8, 9, 16, 2 ** 64, VAST):
            for l in range(4):
                self.assertEqual(format_of(l, m), [-1], (l, m))


class Nearest(unittest.TestCase):
    def test_each_number_as_it_is_and_with_up_to_three_bits_changed(self):
        for (l, m), number in zip(LEVELS_AND_MASKS, NUMBERS):
            for count in range(4):
                for places in itertools.combinations(range(15), count):
                    x = number ^ sum(2 ** place for place in places)
                    self.assertEqual(nearest(x), [8 * l + m], (l, m, places))

    def test_numbers_that_differ_in_four_bits_or_more_from_all(self):
        far = [x for x in range(2 ** 15) if min(differing(x, number) for number in NUMBERS) > 3]
        # What three bits don't reach: all but 32 times 1 + 15 + 105 + 455.
        self.assertEqual(len(far), 2 ** 15 - 32 * 576)
        for x in far:
            self.assertEqual(nearest(x), [-1], x)

    def test_the_largest_of_15_bits_and_more(self):
        near = [8 * l + m for (l, m), number in zip(LEVELS_AND_MASKS, NUMBERS) if differing(number, 2 ** 15 - 1) <= 3]
        self.assertEqual(nearest(2 ** 15 - 1), near or [-1])
        for x in (2 ** 15, 2 ** 15 + NUMBERS[0], 2 ** 16 - 1, 2 ** 64, 2 ** 1023, VAST):
            self.assertEqual(nearest(x), [-1], x)
        for number in NUMBERS:
            # One bit off, but not among the 15.
            self.assertEqual(nearest(2 ** 15 + number), [-1])
            self.assertEqual(nearest(2 ** 1023 + number), [-1])


class Size(unittest.TestCase):
    def test_sizes_7_to_12(self):
        for v, number in SIZE_NUMBERS.items():
            self.assertEqual(size(v), [number], v)
            self.assertEqual(size(v), [4096 * v + by_the_words(v, 12, 0x1F25)], v)

    def test_they_are_those_that_squares_show(self):
        for v in range(7, 13):
            s = side_of(v)
            rows = make(v, 1, 8, text("abc"))[2:]
            places = [(3 * b + a, s - 11 + a, b) for a in range(3) for b in range(6)]
            self.assertEqual(size(v), [sum(dark(rows, x, y) << i for i, x, y in places)], v)
            self.assertEqual(size(v), [sum(dark(rows, y, x) << i for i, x, y in places)], v)

    def test_below_7_and_no_such_size(self):
        for v in (0, 1, 2, 3, 4, 5, 6, 13, 14, 2 ** 64 + 7, VAST):
            self.assertEqual(size(v), [-1], v)


class AsItWas(unittest.TestCase):
    def test_like_calls_answer_alike(self):
        for call, own, other in ((format_of, (1, 5), (9, 9)), (nearest, (0x5412,), (VAST,)), (size, (7,), (1,))):
            first = call(*own)
            kept = list(first)
            first.append(1)
            call(*other)
            self.assertEqual(call(*own), kept)

    def test_answers_are_lists_of_whole_numbers(self):
        for answer in (format_of(0, 0), format_of(4, 0), nearest(0x5412), nearest(VAST), size(7), size(6)):
            self.assertIs(type(answer), list)
            self.assertEqual([type(number) for number in answer], [int])


if __name__ == "__main__":
    unittest.main()
