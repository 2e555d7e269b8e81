import unittest

from fieldsquares.blocks import block_places, byte_count
from fieldsquares.layout import fixed_colours, free_count, free_fields, side, small_square_places
from helper import ALL_SIZES_AND_LEVELS, CENTRES, block_numbers, walk


class Layout(unittest.TestCase):
    def test_small_square_places(self):
        for v, places in CENTRES.items():
            self.assertEqual(sorted(small_square_places(v)), places, v)

    def test_free_counts(self):
        known = [208, 359, 567, 807, 1079, 1383, 1568, 1936, 2336, 2768, 3232, 3728]
        self.assertEqual([free_count(v) for v in range(1, 13)], known)

    def test_fixed_fields_lie_within_the_square(self):
        for v in range(1, 13):
            for x, y in fixed_colours(v, 0):
                self.assertTrue(0 <= x < side(v) and 0 <= y < side(v), (v, x, y))

    def test_size_1_field_by_field(self):
        # "#" is fixed.
        drawn = ["#" * 9 + "...." + "#" * 8] * 6 + ["#" * 21] + ["#" * 9 + "...." + "#" * 8] * 2
        drawn += ["......#" + "." * 14] * 4 + ["#" * 9 + "." * 12] * 8
        self.assert_drawn(1, drawn)

    def test_size_7_field_by_field(self):
        def above(middle):
            return "#" * 9 + "." * 11 + middle + "." * 9 + "#" * 11

        lone_ruler = "......#" + "." * 38
        size_row = "#######" + "." * 38
        drawn = [above(".....")] * 4 + [above("#####")] * 2 + ["#" * 45]
        drawn += ["#" * 9 + "." * 11 + "#" * 5 + "." * 12 + "#" * 8] * 2
        drawn += [lone_ruler] * 11
        drawn += ["....#####" + "." * 11 + "#####" + "." * 11 + "#####" + "...."] * 5
        drawn += [lone_ruler] * 9 + [size_row] * 2
        drawn += ["#######" + "." * 13 + "#####" + "." * 11 + "#####" + "...."]
        drawn += ["#" * 9 + "." * 11 + "#####" + "." * 11 + "#####" + "...."] * 4
        drawn += ["#" * 9 + "." * 36] * 4
        self.assert_drawn(7, drawn)

    def test_each_field_is_fixed_or_has_one_place_in_the_order(self):
        for v in range(1, 13):
            fields = list(fixed_colours(v, 0)) + free_fields(v)
            self.assertEqual(sorted(fields), [(x, y) for x in range(side(v)) for y in range(side(v))], v)

    def test_the_order_against_a_walk(self):
        for v in range(1, 13):
            self.assertEqual(free_fields(v), walk(v), v)

    def test_each_byte_stands_in_one_place_of_one_block(self):
        for v, l in ALL_SIZES_AND_LEVELS:
            places = block_places(v, l)
            self.assertEqual(sorted(sum(places, [])), list(range(byte_count(v))), (v, l))
            for at, (k, i) in enumerate(block_numbers(v, l)):
                self.assertEqual(places[k][i], at, (v, l))

    def assert_drawn(self, v, drawn):
        s = side(v)
        fixed = fixed_colours(v, 0)
        seen = ["".join("#" if (x, y) in fixed else "." for x in range(s)) for y in range(s)]
        self.assertEqual(seen, drawn)


if __name__ == "__main__":
    unittest.main()
