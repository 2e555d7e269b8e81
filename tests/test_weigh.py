import fractions
import unittest

from fieldsquares.squares import make, weigh
from helper import (
    ALL_SIZES_AND_LEVELS, VAST, Sequence, Untouchable, flipped, rows_with, side_of, text, weight_terms,
)

ELEVEN = "#.###.#...."


def checkered(v):
    """A square that weighs nothing: no two neighbours are alike, and half of them are dark."""
    s = side_of(v)
    return rows_with(v, [(x, y) for x in range(s) for y in range(s) if (x + y) % 2 == 0])


def with_row(rows, y, start, signs):
    """The square with these signs in row y from column start on."""
    changed = list(rows)
    for i, sign in enumerate(signs):
        changed[y] = changed[y] & ~(1 << start + i) | (sign == "#") << start + i
    return changed


def turned(v, rows):
    """Rows as columns."""
    s = side_of(v)
    return rows_with(v, [(y, x) for x in range(s) for y in range(s) if rows[y] >> x & 1])


def mirrored(v, rows):
    s = side_of(v)
    return rows_with(v, [(s - 1 - x, y) for x in range(s) for y in range(s) if rows[y] >> x & 1])


def without_elevens(v, rows):
    runs, blocks, _, share = weight_terms(v, rows)
    return runs + blocks + share


class Runs(unittest.TestCase):
    def assert_run(self, v, y, flips, expected):
        """In a checkered row, each field that's flipped is like its neighbours."""
        for rows in (checkered(v), [row ^ 2 ** side_of(v) - 1 for row in checkered(v)]):
            rows = flipped(rows, [(x, y) for x in flips])
            for seen in (rows, mirrored(v, rows), turned(v, rows), turned(v, mirrored(v, rows))):
                self.assertEqual(weigh(v, seen), [expected], (v, y, flips))

    def test_a_checkered_square_weighs_nothing(self):
        for v in range(1, 13):
            self.assertEqual(weigh(v, checkered(v)), [0])

    def test_runs_at_the_edge(self):
        for v in (1, 2, 7, 12):
            for y in (0, 1, 10, side_of(v) - 1):
                self.assert_run(v, y, [0], 0)
                self.assert_run(v, y, [0, 2], 0)
                self.assert_run(v, y, [0, 2, 4], 4)
                self.assert_run(v, y, [0, 2, 4, 6], 6)

    def test_runs_of_three_five_and_seven(self):
        for v in (1, 2, 7, 12):
            for y in (0, 1, 10, side_of(v) - 1):
                self.assert_run(v, y, [5], 0)
                self.assert_run(v, y, [5, 7], 3)
                self.assert_run(v, y, [5, 7, 9], 5)

    def test_a_whole_row_or_column(self):
        for v in (1, 7, 12):
            s = side_of(v)
            self.assert_run(v, 4, list(range(1, s, 2)), 3 + s - 5)

    def test_two_runs_in_one_row(self):
        self.assert_run(1, 4, [1, 3, 10, 12], 3 + 3)
        # One run ends where the next begins.
        self.assert_run(1, 4, [1, 3, 6, 8], 3 + 3)


class TwoByTwo(unittest.TestCase):
    def test_blocks_that_overlap(self):
        # All alike in three rows and columns: four places.
        rows = with_row(with_row(with_row(checkered(1), 3, 3, "###"), 4, 3, "###"), 5, 3, "###")
        terms = weight_terms(1, rows)
        self.assertEqual(terms[1], 12)
        self.assertEqual(weigh(1, rows), [sum(terms)])

    def test_one_block(self):
        # A checkered square has the dark ones of these already.
        rows = flipped(checkered(1), [(5, 4), (4, 5)])
        self.assertEqual(rows[4] >> 4 & 3, 3)
        self.assertEqual(rows[5] >> 4 & 3, 3)
        self.assertEqual(weigh(1, rows), [3])
        self.assertEqual(weigh(1, flipped(checkered(1), [(4, 4), (5, 5)])), [3])

    def test_blocks_at_the_edges(self):
        for v in (1, 12):
            s = side_of(v)
            for x, y in ((0, 0), (s - 2, 0), (0, s - 2), (s - 2, s - 2)):
                rows = checkered(v)
                alike = [(a, b) for a in (x, x + 1) for b in (y, y + 1) if rows[b] >> a & 1]
                self.assertEqual(weigh(v, flipped(rows, alike)), [3], (v, x, y))


class Elevens(unittest.TestCase):
    def assert_elevens(self, v, y, start, signs, count):
        rows = with_row(checkered(v), y, start, signs)
        for seen in (rows, mirrored(v, rows), turned(v, rows), turned(v, mirrored(v, rows))):
            self.assertEqual(weigh(v, seen)[0] - without_elevens(v, seen), 40 * count, (v, y, start, signs))

    def test_everywhere_in_a_row_or_column_both_ways(self):
        for v in (1, 3):
            for y in (0, 9, side_of(v) - 1):
                for start in range(side_of(v) - 10):
                    for signs in (ELEVEN, ELEVEN[::-1]):
                        self.assert_elevens(v, y, start, signs, 1)

    def test_not_beyond_the_edge(self):
        for v in (1, 7):
            s = side_of(v)
            for less in range(1, 5):
                self.assert_elevens(v, 4, s - 11 + less, ELEVEN[:11 - less], 0)
                self.assert_elevens(v, 4, 0, ELEVEN[::-1][less:], 0)
                # In the next row the light ones would go on.
                rows = with_row(with_row(checkered(v), 4, s - 11 + less, ELEVEN[:11 - less]), 5, 0, "....")
                self.assertEqual(weigh(v, rows)[0], without_elevens(v, rows))

    def test_overlapping(self):
        self.assert_elevens(1, 4, 0, "#.###.#....#.###.#", 2)
        self.assert_elevens(1, 4, 2, "#.###.#....#.###.#", 2)
        self.assert_elevens(1, 4, 1, "....#.###.#....", 2)
        self.assert_elevens(3, 4, 0, "....#.###.#....#.###.#....", 4)
        self.assert_elevens(3, 4, 1, "#.###.#....#.###.#....", 3)

    def test_one_field_off(self):
        for i in range(11):
            signs = ELEVEN[:i] + ("." if ELEVEN[i] == "#" else "#") + ELEVEN[i + 1:]
            self.assert_elevens(1, 4, 5, signs, 0)
            self.assert_elevens(1, 4, 5, signs[::-1], 0)

    def test_dark_and_light_are_not_exchanged(self):
        self.assert_elevens(1, 4, 5, "".join("#" if sign == "." else "." for sign in ELEVEN), 0)

    def test_many_rows_and_columns(self):
        for v in (1, 2):
            s = side_of(v)
            line = ("#.###.#....#.###.#....#.###.#....")[:s]
            rows = [0] * s
            for y in range(s):
                rows = with_row(rows, y, 0, line)
            count = sum(line[i:i + 11] in (ELEVEN, ELEVEN[::-1]) for i in range(s - 10))
            self.assertEqual(weigh(v, rows)[0] - without_elevens(v, rows), 40 * count * s)


class Share(unittest.TestCase):
    def share(self, v, count):
        """What the share of dark fields weighs, with so many of them dark: checkered ones first."""
        s = side_of(v)
        fields = sorted(((x, y) for x in range(s) for y in range(s)), key=lambda field: (sum(field) % 2, field))
        rows = rows_with(v, fields[:count])
        runs, blocks, elevens, _ = weight_terms(v, rows)
        return weigh(v, rows)[0] - runs - blocks - elevens

    def test_around_each_step(self):
        for v in (1, 2):
            n = side_of(v) ** 2
            for step in range(11):
                # The nearest whole numbers around where the share is off by step times a twentieth.
                for edge in (fractions.Fraction(n * (10 - step), 20), fractions.Fraction(n * (10 + step), 20)):
                    for count in range(max(0, int(edge) - 1), min(n, int(edge) + 2) + 1):
                        off = abs(fractions.Fraction(count, n) - fractions.Fraction(1, 2))
                        self.assertEqual(self.share(v, count), 10 * int(20 * off), (v, count))

    def test_steps_by_hand(self):
        # 441 fields: a twentieth are 22.05, the half are 220.5.
        for count, weight in ((220, 0), (221, 0), (199, 0), (198, 10), (242, 0), (243, 10), (177, 10), (176, 20),
                              (264, 10), (265, 20), (22, 90), (23, 80), (1, 90), (0, 100), (440, 90), (441, 100)):
            self.assertEqual(self.share(1, count), weight, count)


class Whole(unittest.TestCase):
    def test_all_light_and_all_dark(self):
        for v in range(1, 13):
            s = side_of(v)
            weight = 2 * s * (3 + s - 5) + 3 * (s - 1) ** 2 + 100
            self.assertEqual(weigh(v, [0] * s), [weight], v)
            self.assertEqual(weigh(v, [2 ** s - 1] * s), [weight], v)
        self.assertEqual(weigh(1, []), [2098])

    def test_stripes(self):
        s = 21
        self.assertEqual(weigh(1, [0x155555] * s), [s * (s - 2)])
        self.assertEqual(weigh(1, [0x1FFFFF, 0] * 10 + [0x1FFFFF]), [s * (s - 2)])

    def test_squares_that_were_made(self):
        for v, l in ALL_SIZES_AND_LEVELS:
            for m in (l, 7 - l):
                rows = make(v, l, m, text("Squar3"))[2:]
                self.assertEqual(weigh(v, rows), [sum(weight_terms(v, rows))], (v, l, m))

    def test_any_squares(self):
        for v in range(1, 13):
            for seed in range(4):
                sequence = Sequence(10 * v + seed)
                rows = [sequence.below(2 ** 31) << 31 | sequence.below(2 ** 31) for _ in range(side_of(v))]
                # Some with more dark fields, some with fewer, and the rows alike in twos.
                if seed == 1:
                    rows = [a | b for a, b in zip(rows, rows[1:] + rows[:1])]
                if seed == 2:
                    rows = [a & b for a, b in zip(rows, rows[1:] + rows[:1])]
                if seed == 3:
                    rows = [row & ~1 << 1 | row >> 1 for row in rows]
                rows = [row % 2 ** side_of(v) for row in rows]
                self.assertEqual(weigh(v, rows), [sum(weight_terms(v, rows))], (v, seed))


class Rows(unittest.TestCase):
    def test_rows_that_are_missing_are_0(self):
        for v in (1, 7, 12):
            s = side_of(v)
            rows = make(v, 3, 1, text("abc"))[2:]
            for n in range(s + 1):
                self.assertEqual(weigh(v, rows[:n]), weigh(v, rows[:n] + [0] * (s - n)), (v, n))

    def test_rows_too_many_and_bits_behind_the_last_column(self):
        for v in range(1, 13):
            s = side_of(v)
            rows = make(v, 1, 6, text("abc"))[2:]
            wide = [row + (VAST >> s << s) for row in rows]
            weight = [sum(weight_terms(v, rows))]
            for d in (rows, wide, rows + [VAST], rows + [0] * 9, wide + [VAST] * (1000 - s)):
                self.assertEqual(weigh(v, d), weight, v)

    def test_rows_of_ones_alone(self):
        self.assertEqual(weigh(1, [VAST] * 1000), weigh(1, [2 ** 21 - 1] * 21))


class Refusals(unittest.TestCase):
    def test_no_such_size(self):
        for v in (0, 13, 14, 2 ** 64 + 1, VAST):
            for d in ([], [0] * 21, [VAST] * 1000):
                self.assertEqual(weigh(v, d), [-1])


class AsItWas(unittest.TestCase):
    def test_what_is_handed_in_is_not_changed(self):
        for rows in ([VAST] * 30, [5, 6, 7], [], make(1, 0, 0, [])[2:]):
            d = Untouchable(rows)
            weigh(1, d)
            self.assertEqual(list(d), rows)

    def test_like_calls_answer_alike(self):
        rows = make(1, 0, 0, text("abc"))[2:]
        first = weigh(1, rows)
        kept = list(first)
        first.append(1)
        weigh(7, rows)
        weigh(0, rows)
        self.assertEqual(weigh(1, rows), kept)

    def test_answer_is_a_list_of_whole_numbers(self):
        for answer in (weigh(1, []), weigh(1, checkered(1)), weigh(0, [])):
            self.assertIs(type(answer), list)
            self.assertEqual([type(number) for number in answer], [int])


if __name__ == "__main__":
    unittest.main()
