import unittest

from fieldsquares.squares import place
from helper import VAST, byte_fields, fixed_picture, side_of, walk

# How many fields aren't fixed, by size from 1 on, as publicly known for this code.
COUNTS = (208, 359, 567, 807, 1079, 1383, 1568, 1936, 2336, 2768, 3232, 3728)
SIZES = range(1, 13)


class WholeOrder(unittest.TestCase):
    def test_each_field_that_is_not_fixed_has_one_place(self):
        for v in SIZES:
            s = side_of(v)
            order = [tuple(place(v, i)) for i in range(COUNTS[v - 1])]
            fixed = fixed_picture(v, 0, 0)
            free = [(x, y) for x in range(s) for y in range(s) if (x, y) not in fixed]
            self.assertEqual(sorted(order), free, v)
            self.assertEqual(order, walk(v), v)
            for i in (COUNTS[v - 1], COUNTS[v - 1] + 1):
                self.assertEqual(place(v, i), [-1], (v, i))

    def test_fields_behind_the_last_whole_byte_have_places_too(self):
        for v in SIZES:
            left = byte_fields(v)[1]
            self.assertEqual(len(left), COUNTS[v - 1] % 8)
            start = COUNTS[v - 1] - len(left)
            self.assertEqual([tuple(place(v, start + i)) for i in range(len(left))], left, v)


class Turns(unittest.TestCase):
    def test_size_1_by_hand(self):
        known = {
            0: (20, 20), 1: (19, 20), 2: (20, 19), 3: (19, 19), 22: (20, 9), 23: (19, 9),
            24: (18, 9), 25: (17, 9), 26: (18, 10), 46: (18, 20), 47: (17, 20), 48: (16, 20), 71: (15, 9),
            72: (14, 9), 95: (13, 20), 96: (12, 20), 97: (11, 20),
            # Across row 6, which is a ruler.
            122: (12, 7), 123: (11, 7), 124: (12, 5), 125: (11, 5),
            134: (12, 0), 135: (11, 0), 136: (10, 0), 147: (9, 5), 148: (10, 7), 175: (9, 20),
            # Across column 6, which is another.
            176: (8, 12), 177: (7, 12), 182: (8, 9), 183: (7, 9), 184: (5, 9), 185: (4, 9), 191: (4, 12),
            192: (3, 12), 199: (2, 9), 200: (1, 9), 206: (1, 12), 207: (0, 12),
        }
        for i, (x, y) in known.items():
            self.assertEqual(place(1, i), [x, y], i)
        self.assertEqual(place(1, 208), [-1])

    def test_size_2_around_its_small_square(self):
        # It stands in the columns and rows 16 to 20, and the columns 20 and 19 are gone through from below.
        start = 2 * 32
        self.assertEqual([place(2, start + i) for i in range(10)], [
            [20, 24], [19, 24], [20, 23], [19, 23], [20, 22], [19, 22], [20, 21], [19, 21], [20, 15], [19, 15],
        ])

    def test_the_first_pair_and_the_turn_behind_it(self):
        for v in SIZES:
            s = side_of(v)
            turn = 2 * (s - 9)
            self.assertEqual([place(v, i) for i in (0, 1, 2)], [[s - 1, s - 1], [s - 2, s - 1], [s - 1, s - 2]], v)
            self.assertEqual([place(v, turn - 2), place(v, turn - 1)], [[s - 1, 9], [s - 2, 9]], v)
            self.assertEqual([place(v, turn), place(v, turn + 1)], [[s - 3, 9], [s - 4, 9]], v)
            self.assertEqual([place(v, 2 * turn - 1), place(v, 2 * turn)], [[s - 4, s - 1], [s - 5, s - 1]], v)

    def test_around_column_6(self):
        for v in SIZES:
            # Left of it there are 4 v rows, three fewer with the size's number; and there a small square has two
            # columns of five fields.
            left = 6 * 4 * v if v < 7 else 6 * (4 * v - 3) - 10
            start = COUNTS[v - 1] - left
            self.assertEqual([place(v, start - 2), place(v, start - 1)], [[8, 9], [7, 9]], v)
            self.assertEqual([place(v, start), place(v, start + 1)], [[5, 9], [4, 9]], v)

    def test_the_last_field_and_one_behind_it(self):
        for v in SIZES:
            s = side_of(v)
            last = s - 9 if v < 7 else s - 12
            self.assertEqual([place(v, COUNTS[v - 1] - i) for i in (2, 1, 0)], [[1, last], [0, last], [-1]], v)


class Refusals(unittest.TestCase):
    def test_no_such_size(self):
        for v in (0, 13, 14, 2 ** 64 + 1, VAST):
            for i in (0, 1, 207, VAST):
                self.assertEqual(place(v, i), [-1], (v, i))

    def test_no_such_field(self):
        for v in SIZES:
            for i in (side_of(v) ** 2, 65536, 2 ** 64, 2 ** 1023, VAST):
                self.assertEqual(place(v, i), [-1], (v, i))


class AsItWas(unittest.TestCase):
    def test_like_calls_answer_alike(self):
        for v, i in ((1, 0), (7, 1000), (1, 208)):
            first = place(v, i)
            kept = list(first)
            first[0] = 99
            first.append(1)
            place(12, 5)
            place(0, 0)
            self.assertEqual(place(v, i), kept)

    def test_answers_are_lists_of_whole_numbers(self):
        for answer in (place(1, 0), place(12, 3727), place(0, 0), place(1, 208)):
            self.assertIs(type(answer), list)
            self.assertEqual({type(number) for number in answer}, {int})


if __name__ == "__main__":
    unittest.main()
