import unittest

from fieldsquares.layout import fixed_fields, free_count, side, small_square_places


class Layout(unittest.TestCase):
    def test_small_square_places(self):
        known = {
            1: [], 2: [6, 18], 3: [6, 22], 4: [6, 26], 5: [6, 30], 6: [6, 34], 7: [6, 22, 38],
            8: [6, 24, 42], 9: [6, 26, 46], 10: [6, 28, 50], 11: [6, 30, 54], 12: [6, 32, 58],
        }
        for v, places in known.items():
            self.assertEqual(sorted(small_square_places(v)), places, v)

    def test_free_counts(self):
        known = [208, 359, 567, 807, 1079, 1383, 1568, 1936, 2336, 2768, 3232, 3728]
        self.assertEqual([free_count(v) for v in range(1, 13)], known)

    def test_fixed_fields_lie_within_the_square(self):
        for v in range(1, 13):
            for x, y in fixed_fields(v):
                self.assertTrue(0 <= x < side(v) and 0 <= y < side(v), (v, x, y))

    def test_size_1_field_by_field(self):
        # "#" is fixed.
        drawn = ["#" * 9 + "...." + "#" * 8] * 6 + ["#" * 21] + ["#" * 9 + "...." + "#" * 8] * 2
        drawn += ["......#" + "." * 14] * 4 + ["#" * 9 + "." * 12] * 8
        self.assert_drawn(1, drawn)

    def test_size_7_field_by_field(self):
        def above(middle):
            return "#" * 9 + "." * 11 + middle + "." * 9 + "#" * 11

        lone_ruler = "......#" + "." * 38
        size_row = "#######" + "." * 38
        drawn = [above(".....")] * 4 + [above("#####")] * 2 + ["#" * 45]
        drawn += ["#" * 9 + "." * 11 + "#" * 5 + "." * 12 + "#" * 8] * 2
        drawn += [lone_ruler] * 11
        drawn += ["....#####" + "." * 11 + "#####" + "." * 11 + "#####" + "...."] * 5
        drawn += [lone_ruler] * 9 + [size_row] * 2
        drawn += ["#######" + "." * 13 + "#####" + "." * 11 + "#####" + "...."]
        drawn += ["#" * 9 + "." * 11 + "#####" + "." * 11 + "#####" + "...."] * 4
        drawn += ["#" * 9 + "." * 36] * 4
        self.assert_drawn(7, drawn)

    def assert_drawn(self, v, drawn):
        s = side(v)
        fixed = fixed_fields(v)
        seen = ["".join("#" if (x, y) in fixed else "." for x in range(s)) for y in range(s)]
        self.assertEqual(seen, drawn)


if __name__ == "__main__":
    unittest.main()
