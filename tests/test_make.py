import itertools
import unittest

from fieldsquares.squares import bits, make, room, weigh
from helper import (
    ALL_SIZES_AND_LEVELS, DATA_BYTES, VAST, Sequence, Untouchable, all_fewest_cuts, bits_of_cut, block_lengths,
    blocks_off, byte_fields, bytes_off, cut_of, dark, data_of_bits, data_off, fixed_picture, is_word,
    length_bits, next_byte_bits, side_of, square_of_data, text, unmasked, weight_terms,
)


def bits_off(v, l, m, rows):
    return "".join(f"{byte:08b}" for byte in data_off(v, l, m, rows))


def one_sign_bits(sign, v, n):
    """The bits of a text of n like signs, as one part."""
    kind = {"7": "digits", "Q": "letters", "q": "bytes"}[sign]
    return 4 + length_bits(kind, v) + sum(next_byte_bits(kind, i) for i in range(n))


def one_sign_with_bits(v, count):
    """A text of one sign that takes just so many bits, None if there is none."""
    for sign in "7Qq":
        for n in range(1, 401):
            if one_sign_bits(sign, v, n) == count:
                return text(sign * n)
    return None


class Fields(unittest.TestCase):
    def test_every_field_of_every_size_level_and_mask(self):
        for v, l in ALL_SIZES_AND_LEVELS:
            t = text("q" * (v * l)) + list(range(v, v + 4))
            order = byte_fields(v)
            for m in range(8):
                answer = make(v, l, m, t)
                self.assertEqual(answer[:2], [m, side_of(v)], (v, l, m))
                self.assertEqual(len(answer), 2 + side_of(v), (v, l, m))
                self.assert_fixed(v, l, m, answer[2:])
                self.assert_left(v, m, answer[2:], order[1])
                expected = data_of_bits(v, l, bits_of_cut(v, t, cut_of(v, t)))
                self.assertEqual(data_off(v, l, m, answer[2:]), expected, (v, l, m))

    def assert_fixed(self, v, l, m, rows):
        for (x, y), colour in fixed_picture(v, l, m).items():
            self.assertEqual(dark(rows, x, y), colour, (v, l, m, x, y))

    def assert_left(self, v, m, rows, left):
        self.assertEqual([unmasked(rows, m, field) for field in left], [0] * len(left), (v, m))

    def test_nothing_stands_behind_the_last_column(self):
        for v in range(1, 13):
            for m in (0, 8):
                answer = make(v, 0, m, text("abc"))
                self.assertTrue(all(0 <= row < 2 ** side_of(v) for row in answer[2:]), (v, m))


class Blocks(unittest.TestCase):
    def test_a_known_square(self):
        # "HELLO WORLD" in size 1, level 2: data and checks as they are publicly known.
        data = [0x20, 0x5B, 0x0B, 0x78, 0xD1, 0x72, 0xDC, 0x4D, 0x43, 0x40, 0xEC, 0x11, 0xEC]
        checks = [0xA8, 0x48, 0x16, 0x52, 0xD9, 0x36, 0x9C, 0x00, 0x2E, 0x0F, 0xB4, 0x7A, 0x10]
        for m in range(8):
            rows = make(1, 2, m, text("HELLO WORLD"))[2:]
            self.assertEqual(bytes_off(1, m, rows), data + checks)

    def test_data_and_checks_of_every_size_and_level(self):
        for v, l in ALL_SIZES_AND_LEVELS:
            t = [128 + byte % 128 for byte in Sequence(100 * v + l).bytes(DATA_BYTES[v][l] - 3)]
            expected = data_of_bits(v, l, bits_of_cut(v, t, [("bytes", len(t))]))
            lengths, e = block_lengths(v, l)
            m = (v + l) % 8
            stream = bytes_off(v, m, make(v, l, m, t)[2:])
            self.assertEqual(len(stream), sum(lengths) + e * len(lengths), (v, l))
            start = 0
            for length, block in zip(lengths, blocks_off(v, l, stream)):
                self.assertEqual(block[:length], expected[start:start + length], (v, l))
                self.assertTrue(is_word(block, e), (v, l))
                start += length

    def test_every_byte_against_a_square_drawn_apart(self):
        # Sizes and levels whose blocks have unlike lengths among them.
        for v, l in ((1, 0), (5, 2), (7, 3), (8, 1), (9, 2), (10, 0), (11, 3), (12, 3)):
            t = [128 + byte % 128 for byte in Sequence(v).bytes(DATA_BYTES[v][l] - 3)]
            data = data_of_bits(v, l, bits_of_cut(v, t, [("bytes", len(t))]))
            for m in (2, 7):
                self.assertEqual(make(v, l, m, t), [m, side_of(v)] + square_of_data(v, l, m, data), (v, l, m))


class Cuts(unittest.TestCase):
    def assert_cut(self, v, t, cut):
        l, m = 0, 1
        expected = data_of_bits(v, l, bits_of_cut(v, t, cut))
        self.assertEqual(data_off(v, l, m, make(v, l, m, t)[2:]), expected, (v, t))

    def test_fewest_parts_of_several_with_the_fewest_bits(self):
        for signs, cut in {
            "a555": [("bytes", 4)], "555a": [("bytes", 4)], "5a555": [("bytes", 5)], "aa555": [("bytes", 5)],
        }.items():
            cuts, _ = all_fewest_cuts(9, text(signs))
            self.assertGreater(len({len(other) for other in cuts}), 1)
            self.assert_cut(9, text(signs), cut)

    def test_the_kind_with_the_lesser_number(self):
        for v in (9, 10):
            for signs, cut in {
                "5555AAAa": [("digits", 4), ("bytes", 4)], "5555AAAaa": [("digits", 4), ("bytes", 5)],
            }.items():
                cuts, _ = all_fewest_cuts(v, text(signs))
                self.assertEqual({len(other) for other in cuts}, {2})
                self.assertIn("letters", [other[0][0] for other in cuts])
                self.assert_cut(v, text(signs), cut)

    def test_the_longer_part_of_one_kind(self):
        for v in (9, 10):
            for signs in ("aAAA5555", "a5AA5555", "a55A5555"):
                cuts, _ = all_fewest_cuts(v, text(signs))
                self.assertIn([("bytes", 1), ("letters", 7)], cuts)
                self.assert_cut(v, text(signs), [("bytes", 4), ("digits", 4)])

    def test_every_text_of_a_few_signs(self):
        for n in range(6):
            for signs in itertools.product("5Aa", repeat=n):
                self.assert_cut(3, text(signs), cut_of(3, text(signs)))

    def test_runs_of_signs(self):
        for order in itertools.permutations("5Aa"):
            for lengths in itertools.product((1, 3, 4, 7), repeat=3):
                t = text("".join(sign * n for sign, n in zip(order, lengths)) + order[0] * lengths[1])
                for v in (9, 10):
                    self.assert_cut(v, t, cut_of(v, t))

    def test_every_letter_and_digit_alone_and_in_twos(self):
        signs = text("0123456789ABCDEFGHIJKLMNOPQRSTUVWXYZ $%*+-./:")
        for sign in signs:
            kind = "digits" if chr(sign).isdigit() else "letters"
            self.assert_cut(1, [sign], [(kind, 1)])
            self.assert_cut(2, [sign, 90, sign], [("letters", 3)])
        for byte in range(256):
            if byte not in signs:
                self.assert_cut(1, [byte], [("bytes", 1)])

    def test_long_texts(self):
        self.assert_cut(12, text("7" * 400), [("digits", 400)])
        self.assert_cut(9, text("7" * 400), [("digits", 400)])
        self.assert_cut(11, text("Q" * 400), [("letters", 400)])
        self.assert_cut(12, text("q" * 300), [("bytes", 300)])
        self.assert_cut(12, text("q" * 300 + "7" * 60), [("bytes", 300), ("digits", 60)])


class Ends(unittest.TestCase):
    def test_room_for_four_three_two_one_and_no_bits_0(self):
        seen = {}
        for v, l in ALL_SIZES_AND_LEVELS:
            for left in range(13):
                t = one_sign_with_bits(v, room(v, l)[0] - left) if seen.get(left, 0) < 3 else None
                if t is not None:
                    seen[left] = seen.get(left, 0) + 1
                    self.assert_end(v, l, t, left)
        self.assertEqual(sorted(seen), list(range(13)))

    def assert_end(self, v, l, t, left):
        own = bits_of_cut(v, t, cut_of(v, t))
        # With up to eleven left no byte is left behind the four; with twelve there is one.
        end = "0" * left if left < 12 else "0" * 4 + "11101100"
        self.assertEqual(bits_off(v, l, 5, make(v, l, 5, t)[2:]), own + end, (v, l, left))

    def test_the_empty_text(self):
        for v, l in ALL_SIZES_AND_LEVELS:
            count = DATA_BYTES[v][l]
            self.assertEqual(data_off(v, l, 3, make(v, l, 3, [])[2:]), ([0] + [0xEC, 0x11] * count)[:count], (v, l))

    def test_fillers_go_by_turns(self):
        self.assertEqual(data_off(1, 0, 0, make(1, 0, 0, [255])[2:])[:6], [0x40, 0x1F, 0xF0, 0xEC, 0x11, 0xEC])
        self.assertEqual(data_off(1, 0, 0, make(1, 0, 0, text("1"))[2:])[:5], [0x10, 0x04, 0x40, 0xEC, 0x11])


class Lightest(unittest.TestCase):
    def assert_lightest(self, v, l, t):
        weights = [sum(weight_terms(v, make(v, l, m, t)[2:])) for m in range(8)]
        answer = make(v, l, 8, t)
        self.assertEqual(answer[0], weights.index(min(weights)), (v, l, t))
        self.assertEqual(answer, make(v, l, answer[0], t), (v, l, t))
        self.assertEqual(weigh(v, answer[2:]), [min(weights)], (v, l, t))
        return weights

    def test_every_size_and_level(self):
        for v, l in ALL_SIZES_AND_LEVELS:
            self.assert_lightest(v, l, Sequence(50 * v + l).bytes(DATA_BYTES[v][l] // 2))

    def test_each_mask_is_the_lightest_of_some_text(self):
        seen = set()
        for i in range(100):
            t = Sequence(i).bytes(6)
            weights = self.assert_lightest(1, 0, t)
            seen.add(weights.index(min(weights)))
        self.assertEqual(seen, set(range(8)))

    def test_the_least_of_like_ones(self):
        for l, t, like in (
            (3, [253, 120, 3, 56, 7, 231], [2, 6]), (3, [169, 197], [0, 7]), (1, [68, 177, 222, 175], [3, 4]),
            (0, [21, 25, 75, 107, 46, 72, 185, 186], [0, 3]), (0, [78, 231, 219, 178, 109, 3, 103], [2, 5]),
            (0, [45, 63, 140, 92, 161, 52, 213, 60, 229, 108, 178, 87], [4, 7]),
        ):
            weights = self.assert_lightest(1, l, t)
            self.assertEqual([m for m in range(8) if weights[m] == min(weights)], like)
            self.assertEqual(make(1, l, 8, t)[0], like[0])

    def test_the_empty_text(self):
        for v in range(1, 13):
            self.assert_lightest(v, v % 4, [])


class Refusals(unittest.TestCase):
    def test_no_such_size(self):
        for v in (0, 13, 2 ** 64 + 1, VAST):
            for m in (0, 8):
                self.assertEqual(make(v, 0, m, text("a")), [-1])

    def test_no_such_level(self):
        for l in (4, 5, 2 ** 64, VAST):
            self.assertEqual(make(1, l, 0, text("a")), [-1])

    def test_no_such_mask(self):
        for m in (9, 10, 16, 2 ** 64, VAST):
            for v in (1, 12):
                self.assertEqual(make(v, 0, m, text("a")), [-1])

    def test_texts_too_long(self):
        self.assertEqual(make(12, 0, 0, text("7") * 400)[:2], [0, 65])
        for n in (401, 65536):
            self.assertEqual(make(12, 0, 0, text("7") * n), [-1])

    def test_a_text_that_just_does_not_fit(self):
        for v, l in ALL_SIZES_AND_LEVELS:
            for sign in "7Qq":
                fitting = [n for n in range(1, 401) if one_sign_bits(sign, v, n) <= 8 * DATA_BYTES[v][l]]
                most = max(fitting)
                self.assertEqual(make(v, l, 1, text(sign * most))[:2], [1, side_of(v)], (v, l, sign))
                if most < 400:
                    self.assertEqual(make(v, l, 1, text(sign * (most + 1))), [-2], (v, l, sign))
                    self.assertEqual(make(v, l, 8, text(sign * (most + 1))), [-2], (v, l, sign))

    def test_a_text_of_just_all_the_bits_and_of_one_more(self):
        self.assertEqual((bits(1, text("5" * 27)), room(1, 2)), ([104], [104]))
        self.assertEqual(make(1, 2, 0, text("5" * 27))[0], 0)
        # 14 + 94 bits of digits, for which there's room for 104.
        self.assertEqual(make(1, 2, 0, text("5" * 28)), [-2])

    def test_minus_1_ahead_of_minus_2(self):
        t = [200] * 400
        self.assertEqual(make(1, 0, 0, t), [-2])
        self.assertEqual(make(12, 0, 8, t), [-2])
        for v, l, m, u in ((0, 0, 0, t), (13, 0, 0, t), (1, 4, 0, t), (1, 0, 9, t), (1, 0, 0, t + [1]),
                           (VAST, VAST, VAST, t), (1, 0, VAST, [1] * 65536)):
            self.assertEqual(make(v, l, m, u), [-1])


class AsItWas(unittest.TestCase):
    def test_what_is_handed_in_is_not_changed(self):
        signs = text("ab12345678AB") * 5
        t = Untouchable(signs)
        for m in (0, 8):
            make(9, 1, m, t)
            make(10, 1, m, t)
        self.assertEqual(list(t), signs)

    def test_like_calls_answer_alike(self):
        for m in (4, 8):
            first = make(2, 1, m, text("Hello"))
            kept = list(first)
            first[3] = 0
            first.append(1)
            make(12, 3, 8, text("0123"))
            make(2, 1, 9, text("Hello"))
            self.assertEqual(make(2, 1, m, text("Hello")), kept)

    def test_answer_is_a_list_of_whole_numbers(self):
        for answer in (make(7, 0, 0, []), make(1, 1, 8, text("a")), make(0, 0, 0, []), make(1, 0, 0, [200] * 99)):
            self.assertIs(type(answer), list)
            self.assertEqual({type(number) for number in answer}, {int})


if __name__ == "__main__":
    unittest.main()
