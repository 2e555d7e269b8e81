import unittest

from fieldsquares.squares import make, read
from helper import (
    ALL_SIZES_AND_LEVELS, BLOCK_TABLE, DATA_BYTES, LEVEL_MASK_NUMBERS, VAST, Damage, Sequence, Untouchable, answer_of,
    bits_of_part, block_lengths, blocks_off, byte_fields, bytes_off, checks_of_row, data_of_bits, fields_by_block,
    fixed_picture, flipped, length_bits, level_mask_copies, mended_by_trying, rows_with, side_of,
    square_of_bytes, square_of_data, text, written,
)


class WhatWasMade(unittest.TestCase):
    def test_every_size_level_and_mask(self):
        for v, l in ALL_SIZES_AND_LEVELS:
            t = Sequence(10 * v + l).bytes(min(DATA_BYTES[v][l] - 3, 90))
            for m in range(8):
                rows = make(v, l, m, t)[2:]
                self.assertEqual(read(v, rows, []), answer_of(l, m, t), (v, l, m))

    def test_with_the_lightest_mask(self):
        for v, l in ALL_SIZES_AND_LEVELS:
            t = text("Squaremark 0123456789 ABCDEFGHIJ"[:DATA_BYTES[v][l] - 3])
            answer = make(v, l, 8, t)
            self.assertEqual(read(v, answer[2:], []), answer_of(l, answer[0], t), (v, l))

    def test_the_empty_text(self):
        for v, l in ALL_SIZES_AND_LEVELS:
            self.assertEqual(read(v, make(v, l, 2, [])[2:], []), answer_of(l, 2, []), (v, l))

    def test_texts_of_every_kind_of_part(self):
        texts = ["1", "12", "123", "1234", "A", "AB", "ABC", ":", "a", "0", "00", "000", "0000", "999999", "::",
                 "a5555555AAAAAAAAA:a", "007", "AAAA0000000000aaaa", " $%*+-./:", "0a0"]
        for signs in texts:
            for v in (2, 9, 10):
                self.assertEqual(read(v, make(v, 0, 6, text(signs))[2:], []), answer_of(0, 6, text(signs)), signs)
        for byte in range(256):
            self.assertEqual(read(1, make(1, 0, 0, [byte])[2:], []), answer_of(0, 0, [byte]))

    def test_texts_that_fill_the_square(self):
        for v, l, signs in ((1, 2, "5" * 27), (1, 0, "7" * 41), (1, 3, "Q" * 10), (1, 3, "q" * 7), (9, 0, "7" * 400),
                            (12, 0, "q" * 367), (12, 0, "7" * 400), (12, 0, "Q" * 400), (10, 3, "q" * 119)):
            self.assertEqual(read(v, make(v, l, 4, text(signs))[2:], []), answer_of(l, 4, text(signs)), (v, l))

    def test_other_fixed_fields_and_those_that_are_left_are_not_looked_at(self):
        for v in range(1, 13):
            rows = make(v, 1, 3, text("abc"))[2:]
            first, second = level_mask_copies(v)
            fixed = [field for field in fixed_picture(v, 1, 3) if field not in first + second]
            others = fixed + byte_fields(v)[1]
            self.assertEqual(read(v, flipped(rows, others), []), answer_of(1, 3, text("abc")), v)
            self.assertEqual(read(v, rows, rows_with(v, others)), answer_of(1, 3, text("abc")), v)
            self.assertEqual(read(v, flipped(rows, second), []), answer_of(1, 3, text("abc")), v)
            self.assertEqual(read(v, rows, rows_with(v, others + second)), answer_of(1, 3, text("abc")), v)


class WrongAndUnknown(unittest.TestCase):
    def test_up_to_what_the_checks_carry_and_one_beyond(self):
        for v, l in ALL_SIZES_AND_LEVELS:
            lengths, e = block_lengths(v, l)
            t = Sequence(v + l).bytes(min(DATA_BYTES[v][l] - 3, 60))
            rows = make(v, l, l, t)[2:]
            for lost in (0, 1, e // 2, e - 1, e):
                wrong = (e - lost) // 2
                damage = Damage(v, l, rows, 1000 * v + lost)
                for k in range(len(lengths)):
                    damage.spoil(k, wrong, lost)
                expected = answer_of(l, l, t, 0, wrong * len(lengths), lost * len(lengths))
                self.assertEqual(read(v, damage.rows, damage.unknown), expected, (v, l, lost))
                for k in (0, len(lengths) - 1):
                    self.assert_one_beyond(v, l, rows, k, wrong, lost)

    def assert_one_beyond(self, v, l, rows, k, wrong, lost):
        """One wrong byte more, or the least of lost ones, in one block are refused, though the others are whole."""
        e = block_lengths(v, l)[1]
        for more_wrong, more_lost in ((1, 0), (0, 1 + (e - lost) % 2)):
            if wrong + more_wrong + lost + more_lost > len(fields_by_block(v, l)[k]):
                continue
            damage = Damage(v, l, rows, v + lost)
            damage.spoil(k, wrong + more_wrong, lost + more_lost)
            answer = read(v, damage.rows, damage.unknown)
            if more_wrong and lost == e:
                # With as many lost as there are checks there's always a word, here another one.
                self.assertNotEqual(answer, [-3], (v, l, k))
            else:
                self.assertEqual(answer, [-3], (v, l, k, more_wrong, more_lost))

    def test_every_split_between_wrong_and_lost(self):
        for v, l in ((1, 0), (1, 3), (5, 2), (7, 3)):
            lengths, e = block_lengths(v, l)
            rows = make(v, l, 1, text("abcde"))[2:]
            for lost in range(e + 1):
                for wrong in range((e - lost) // 2 + 1):
                    damage = Damage(v, l, rows, 77 * lost + wrong)
                    damage.spoil(len(lengths) - 1, wrong, lost)
                    expected = answer_of(l, 1, text("abcde"), 0, wrong, lost)
                    self.assertEqual(read(v, damage.rows, damage.unknown), expected, (v, l, wrong, lost))

    def test_one_more_lost_than_there_are_checks(self):
        for v, l in ALL_SIZES_AND_LEVELS:
            rows = make(v, l, 0, text("abc"))[2:]
            e = BLOCK_TABLE[v][l][0]
            damage = Damage(v, l, rows)
            for k, own in enumerate(damage.blocks):
                fields = [byte[0] for byte in own]
                self.assertEqual(read(v, rows, rows_with(v, fields[-e:])), answer_of(l, 0, text("abc"), 0, 0, e))
                # They are right as they stand, but too many are lost.
                self.assertEqual(read(v, rows, rows_with(v, fields[-e - 1:])), [-3], (v, l, k))

    def test_one_unknown_field_loses_its_byte_whichever_it_is(self):
        rows = make(1, 0, 5, text("abc"))[2:]
        for fields in byte_fields(1)[0]:
            for field in fields:
                for came in (rows, flipped(rows, [field])):
                    self.assertEqual(read(1, came, rows_with(1, [field])), answer_of(0, 5, text("abc"), 0, 0, 1))
            self.assertEqual(read(1, rows, rows_with(1, fields)), answer_of(0, 5, text("abc"), 0, 0, 1))

    def test_one_wrong_field_is_mended_whichever_it_is(self):
        for v in (1, 2):
            rows = make(v, 0, 5, text("abc"))[2:]
            for fields in byte_fields(v)[0]:
                for field in fields:
                    self.assertEqual(read(v, flipped(rows, [field]), []), answer_of(0, 5, text("abc"), 0, 1, 0))

    def test_lost_bytes_are_not_counted_as_mended(self):
        rows = make(1, 0, 5, text("abc"))[2:]
        fields = byte_fields(1)[0]
        came = flipped(rows, fields[0] + fields[1] + fields[2])
        self.assertEqual(read(1, came, rows_with(1, fields[0] + fields[5])), answer_of(0, 5, text("abc"), 0, 2, 2))

    def test_all_is_unknown_but_level_and_mask(self):
        for v in (1, 7, 12):
            rows = make(v, 2, 4, text("abc"))[2:]
            fields = [field for byte in byte_fields(v)[0] for field in byte]
            self.assertEqual(read(v, rows, rows_with(v, fields)), [-3])

    def test_what_looks_like_another_word_is_read_as_that(self):
        # Two words of size 1, level 0, with eight bytes' difference, as near as words can be.
        own = text("a" + "c" * 15)
        one = blocks_off(1, 0, bytes_off(1, 0, make(1, 0, 0, own)[2:]))[0]
        near = list(one)
        near[2] ^= 0x30
        near = near[:19] + checks_of_row(near[:19], 7)
        places = [i for i in range(26) if one[i] != near[i]]
        self.assertEqual(len(places), 8)
        other = read(1, square_of_bytes(1, 0, 0, near), [])[7:]
        self.assertNotEqual(other, own)
        for count in range(9):
            came = list(one)
            for place in places[:count]:
                came[place] = near[place]
            answer = read(1, square_of_bytes(1, 0, 0, came), [])
            if count <= 3:
                self.assertEqual(answer, answer_of(0, 0, own, 0, count))
            elif count == 4:
                self.assertEqual(answer, [-3])
            else:
                self.assertEqual(answer, answer_of(0, 0, other, 0, 8 - count))

    def test_against_every_choice_of_wrong_places(self):
        sequence = Sequence(9)
        found = {True: 0, False: 0}
        word = blocks_off(1, 0, bytes_off(1, 6, make(1, 0, 6, text("abcdefgh"))[2:]))[0]
        fields = byte_fields(1)[0]
        for i in range(24):
            lost = sequence.some(range(26), (5, 3, 6, 7)[i % 4])
            came = list(word)
            for place in sequence.some(range(26), 1 + sequence.below(4)):
                came[place] ^= 1 + sequence.below(255)
            mended = mended_by_trying(came, 7, lost)
            unknown = rows_with(1, [fields[place][3] for place in lost])
            answer = read(1, square_of_bytes(1, 0, 6, came), unknown)
            found[mended is None] += 1
            if mended is None:
                self.assertEqual(answer, [-3])
            elif mended == word:
                wrong = len([p for p in range(26) if came[p] != word[p] and p not in lost])
                self.assertEqual(answer, answer_of(0, 6, text("abcdefgh"), 0, wrong, len(lost)))
            else:
                self.assertNotEqual(answer, [-3])
        self.assertTrue(found[True] > 3 and found[False] > 3, found)


class Copies(unittest.TestCase):
    def setUp(self):
        self.t = text("abc")

    def spoiled(self, fields, wrong, unknown, seed):
        """Fields that differ and fields that aren't known, apart from one another."""
        sequence = Sequence(seed)
        chosen = sequence.some(fields, wrong + unknown)
        off = sequence.some(chosen, wrong)
        return off, [field for field in chosen if field not in off]

    def test_the_first_copy_up_to_the_edge_and_beyond(self):
        for v, l, m in ((1, 0, 0), (3, 1, 5), (7, 2, 3), (12, 3, 7)):
            rows = make(v, l, m, self.t)[2:]
            first, _ = level_mask_copies(v)
            for wrong in range(4):
                for unknown in range(8 - 2 * wrong):
                    off, blind = self.spoiled(first, wrong, unknown, 8 * wrong + unknown)
                    copy = 0 if 2 * wrong + unknown <= 6 else 1
                    for extra in ([], blind):
                        # What stands in an unknown field doesn't matter.
                        answer = read(v, flipped(rows, off + extra), rows_with(v, blind))
                        self.assertEqual(answer, answer_of(l, m, self.t, copy), (v, wrong, unknown))

    def test_every_number_of_level_and_mask_at_the_edge(self):
        for l in range(4):
            for m in range(8):
                rows = make(2, l, m, self.t)[2:]
                first, _ = level_mask_copies(2)
                for wrong, unknown in ((3, 0), (2, 2), (0, 6), (3, 1), (2, 3), (1, 5), (0, 7)):
                    copy = 0 if 2 * wrong + unknown == 6 else 1
                    off, blind = self.spoiled(first, wrong, unknown, 8 * l + m)
                    answer = read(2, flipped(rows, off), rows_with(2, blind))
                    self.assertEqual(answer, answer_of(l, m, self.t, copy), (l, m, wrong, unknown))

    def test_the_second_copy_at_the_edge_and_neither(self):
        for v, l, m in ((1, 0, 0), (7, 2, 3), (12, 3, 7)):
            rows = make(v, l, m, self.t)[2:]
            first, second = level_mask_copies(v)
            for wrong in range(4):
                for unknown in (6 - 2 * wrong, 7 - 2 * wrong):
                    off, blind = self.spoiled(second, wrong, unknown, wrong)
                    answer = read(v, flipped(rows, off), rows_with(v, first + blind))
                    expected = answer_of(l, m, self.t, 1) if 2 * wrong + unknown <= 6 else [-2]
                    self.assertEqual(answer, expected, (v, wrong, unknown))

    def test_neither_says_any(self):
        for v in range(1, 13):
            rows = make(v, 0, 0, self.t)[2:]
            first, second = level_mask_copies(v)
            self.assertEqual(read(v, rows, rows_with(v, first + second)), [-2])
            self.assertEqual(read(v, rows, rows_with(v, first[:7] + second[8:])), [-2])
            self.assertEqual(read(v, [0] * side_of(v), [VAST] * side_of(v)), [-2])

    def test_minus_2_ahead_of_minus_3(self):
        self.assertEqual(read(1, [], [2 ** 21 - 1] * 21), [-2])
        rows = make(1, 0, 0, self.t)[2:]
        self.assertEqual(read(1, rows, [2 ** 21 - 1] * 21), [-2])

    def test_the_first_copy_counts_even_if_the_second_says_otherwise(self):
        rows = make(1, 1, 1, self.t)[2:]
        first, second = level_mask_copies(1)
        other = LEVEL_MASK_NUMBERS[1][1] ^ LEVEL_MASK_NUMBERS[2][5]
        differing = [i for i in range(15) if other >> i & 1]
        self.assertEqual(read(1, flipped(rows, [second[i] for i in differing]), []), answer_of(1, 1, self.t))
        self.assertEqual(read(1, flipped(rows, [first[i] for i in differing]), []), [-3])

    def test_level_and_mask_are_told_as_they_are_read(self):
        # The same bytes under a mark of the same level but another mask are other bytes.
        for m in range(8):
            rows = square_of_data(1, 0, m, data_of_bits(1, 0, bits_of_part("bytes", 1, self.t)))
            self.assertEqual(read(1, rows, []), answer_of(0, m, self.t))


class Parts(unittest.TestCase):
    def read_bits(self, v, l, bits, fill="0"):
        """What a square answers whose data begin with these bits; what's left is filled."""
        count = 8 * DATA_BYTES[v][l]
        self.assertLessEqual(len(bits), count)
        bits += (fill * count)[:count - len(bits)]
        data = [int(bits[i:i + 8], 2) for i in range(0, count, 8)]
        return read(v, square_of_data(v, l, 2, data), [])

    def assert_text(self, v, l, bits, t, fill="0"):
        self.assertEqual(self.read_bits(v, l, bits, fill), answer_of(l, 2, t), (v, l, bits))

    def assert_none(self, v, l, bits, fill="0"):
        self.assertEqual(self.read_bits(v, l, bits, fill), [-4], (v, l, bits))

    def part(self, kind, v, n, body):
        """A part's bits with any length and any body."""
        return written({"digits": 1, "letters": 2, "bytes": 4}[kind], 4) + written(n, length_bits(kind, v)) + body

    def test_another_number_in_the_place_of_a_part_s(self):
        for number in (3, 5, 6, 7, 8, 9, 10, 11, 12, 13, 14, 15):
            for v in (1, 10):
                self.assert_none(v, 0, written(number, 4))
                self.assert_none(v, 0, bits_of_part("bytes", v, text("ab")) + written(number, 4))

    def test_groups_with_numbers_too_large(self):
        for kind, n, count, most in (("digits", 3, 10, 999), ("digits", 2, 7, 99), ("digits", 1, 4, 9),
                                     ("letters", 2, 11, 2024), ("letters", 1, 6, 44)):
            signs = "9" * n if kind == "digits" else ":" * n
            for v in (1, 9, 10, 12):
                self.assert_text(v, 0, self.part(kind, v, n, written(most, count)), text(signs))
                for number in (most + 1, 2 ** count - 1):
                    self.assert_none(v, 0, self.part(kind, v, n, written(number, count)))

    def test_groups_too_large_behind_others(self):
        self.assert_text(1, 0, self.part("digits", 1, 5, written(7, 10) + written(99, 7)), text("00799"))
        self.assert_none(1, 0, self.part("digits", 1, 5, written(7, 10) + written(100, 7)))
        self.assert_none(1, 0, self.part("digits", 1, 6, written(7, 10) + written(1000, 10)))
        self.assert_none(1, 0, self.part("digits", 1, 4, written(7, 10) + written(10, 4)))
        self.assert_text(1, 0, self.part("letters", 1, 3, written(45, 11) + written(44, 6)), text("10:"))
        self.assert_none(1, 0, self.part("letters", 1, 3, written(45, 11) + written(45, 6)))
        self.assert_none(1, 0, self.part("letters", 1, 4, written(45, 11) + written(2025, 11)))

    def test_bits_that_end_within_a_part_s_bytes(self):
        # Size 1, level 3: 72 bits.
        self.assert_text(1, 3, self.part("bytes", 1, 7, ""), [0] * 7)
        self.assert_none(1, 3, self.part("bytes", 1, 8, ""))
        self.assert_none(1, 3, self.part("bytes", 1, 255, ""))
        self.assert_text(1, 3, self.part("digits", 1, 17, ""), text("0" * 17))
        self.assert_none(1, 3, self.part("digits", 1, 18, ""))
        self.assert_none(1, 3, self.part("digits", 1, 1023, ""))
        self.assert_text(1, 3, self.part("letters", 1, 10, ""), text("0" * 10))
        self.assert_none(1, 3, self.part("letters", 1, 11, ""))
        self.assert_none(1, 3, self.part("letters", 1, 511, ""))
        self.assert_none(12, 0, self.part("bytes", 12, 65535, ""))
        self.assert_none(12, 0, self.part("bytes", 12, 368, ""))
        self.assert_text(12, 0, self.part("bytes", 12, 367, ""), [0] * 367)

    def test_bits_that_end_just_with_a_part(self):
        # 14 + 90 bits of 104, and 12 + 56 of 72 with 4 behind.
        self.assert_text(1, 2, bits_of_part("digits", 1, text("5" * 27)), text("5" * 27))
        self.assert_text(1, 3, bits_of_part("bytes", 1, text("abcdefg")) + "0000", text("abcdefg"))

    def test_bits_that_end_within_a_part_s_length(self):
        # Behind 68 bits of 72 there's room for a kind's number alone.
        for kind in ("0001", "0010", "0100"):
            self.assert_none(1, 3, bits_of_part("bytes", 1, text("abcdefg")) + kind)
        # Behind 58 bits of 72: digits' number and length fit just so, with length 0, and bits of bytes too.
        own = bits_of_part("digits", 1, text("1" * 13))
        self.assertEqual(len(own), 58)
        self.assert_text(1, 3, own + self.part("digits", 1, 0, ""), text("1" * 13))
        self.assert_none(1, 3, own + self.part("digits", 1, 1, ""))
        # Behind 61: eleven bits are left, where twelve are asked for at the least.
        own = bits_of_part("digits", 1, text("1" * 14))
        self.assertEqual(len(own), 61)
        for kind in ("0001", "0010", "0100"):
            self.assert_none(1, 3, own + kind)

    def test_fewer_than_four_bits_left_whatever_they_are(self):
        for v, l, kind, signs, left in (
            (1, 2, "digits", "5" * 27, 0), (1, 3, "digits", "5" * 17, 1), (1, 3, "letters", "Q" * 10, 4),
            (1, 0, "digits", "7" * 41, 1), (2, 0, "letters", "Q" * 47, 0), (3, 2, "letters", "Q" * 47, 0),
            (2, 2, "letters", "Q" * 29, 3), (5, 1, "letters", "Q" * 122, 4), (2, 1, "digits", "7" * 63, 0),
            (4, 2, "letters", "Q" * 67, 2),
        ):
            own = bits_of_part(kind, v, text(signs))
            self.assertEqual(8 * DATA_BYTES[v][l] - len(own), left, (v, l, kind))
            self.assert_text(v, l, own, text(signs), "0")
            if left < 4:
                self.assert_text(v, l, own, text(signs), "1")
            else:
                self.assert_none(v, l, own, "1")

    def test_what_stands_behind_the_end_is_not_looked_at(self):
        for fill in ("1", "01", "0011"):
            self.assert_text(1, 0, "0000", [], fill)
            self.assert_text(1, 0, bits_of_part("letters", 1, text("AB")) + "0000", text("AB"), fill)

    def test_parts_of_length_0(self):
        for v in (1, 9, 10, 12):
            for kind in ("digits", "letters", "bytes"):
                empty = self.part(kind, v, 0, "")
                self.assert_text(v, 0, empty, [])
                self.assert_text(v, 0, empty + empty + bits_of_part("digits", v, text("12")) + empty, text("12"))
                self.assert_none(v, 0, empty + "0011")

    def test_other_cuts_than_the_text_s_own_are_read(self):
        for v in (1, 9, 10):
            cut = bits_of_part("bytes", v, text("1")) + bits_of_part("digits", v, text("2"))
            cut += bits_of_part("letters", v, text("3A")) + bits_of_part("bytes", v, [255])
            self.assert_text(v, 0, cut, text("123A") + [255])

    def test_lengths_with_their_highest_bit(self):
        for kind, t in (("digits", text("0123456789" * 54)), ("letters", text("ABCDE: $+-" * 30)),
                        ("bytes", list(range(28, 228)))):
            self.assertGreaterEqual(len(t), 2 ** (length_bits(kind, 9) - 1))
            self.assert_text(9, 0, bits_of_part(kind, 9, t), t)

    def test_texts_of_more_than_400_bytes(self):
        t = text("0123456789" * 88)
        self.assert_text(12, 0, bits_of_part("digits", 12, t), t)

    def test_minus_3_ahead_of_minus_4(self):
        data = [0xF0] + [0] * 8
        rows = square_of_data(1, 3, 2, data)
        fields = byte_fields(1)[0]
        self.assertEqual(read(1, rows, []), [-4])
        self.assertEqual(read(1, rows, rows_with(1, [own[0] for own in fields[:17]])), [-4])
        self.assertEqual(read(1, rows, rows_with(1, [own[0] for own in fields[:18]])), [-3])


class Rows(unittest.TestCase):
    def test_rows_that_are_missing_are_0(self):
        for v in (1, 7, 12):
            s = side_of(v)
            rows = make(v, 3, 1, text("abc"))[2:]
            for n in range(s + 1):
                self.assertEqual(read(v, rows[:n], []), read(v, rows[:n] + [0] * (s - n), [0] * s), (v, n))
        self.assertEqual(read(1, [], []), read(1, [0] * 21, [0] * 21))

    def test_a_square_is_read_without_its_last_row(self):
        for v in range(1, 13):
            rows = make(v, 3, 0, text("abc"))[2:]
            self.assertEqual(read(v, rows[:-1], [])[6:], [3] + text("abc"), v)

    def test_rows_too_many_and_bits_behind_the_last_column(self):
        for v in range(1, 13):
            s = side_of(v)
            rows = make(v, 1, 6, text("abc"))[2:]
            wide = [row + (VAST >> s << s) for row in rows]
            behind = [VAST >> s << s] * s
            for d in (rows, wide, rows + [VAST] * 3, wide + [VAST] * (1000 - s)):
                for u in ([], [0] * s, behind, behind[:3], behind + [VAST] * (1000 - s)):
                    self.assertEqual(read(v, d, u), answer_of(1, 6, text("abc")), v)

    def test_unknown_rows_that_are_missing_are_known(self):
        rows = make(1, 0, 6, text("abc"))[2:]
        self.assertEqual(read(1, rows, [2 ** 21 - 1] * 21), [-2])
        for n in range(22):
            u = [2 ** 11 + 2 ** 10] * n
            self.assertEqual(read(1, rows, u), read(1, rows, u + [0] * (21 - n)), n)

    def test_rows_of_u_beyond_those_of_d_still_count(self):
        rows = make(1, 3, 0, text("abc"))[2:]
        lowest = [0] * 20 + [2 ** 21 - 2 ** 9]
        self.assertEqual(read(1, rows[:20], lowest), read(1, rows[:20] + [0], lowest))
        self.assertEqual(read(1, rows[:20], lowest)[7:], text("abc"))


class Refusals(unittest.TestCase):
    def test_no_such_size(self):
        rows = make(1, 0, 0, [])[2:]
        for v in (0, 13, 2 ** 64 + 1, VAST):
            self.assertEqual(read(v, rows, []), [-1])
            self.assertEqual(read(v, [], [VAST] * 1000), [-1])

    def test_a_square_of_another_size(self):
        rows = make(5, 0, 0, text("abc"))[2:]
        for v in (1, 2, 3, 4, 6, 7, 12):
            self.assertIn(read(v, rows, []), ([-2], [-3]))

    def test_all_dark_and_all_light(self):
        for v in range(1, 13):
            s = side_of(v)
            self.assertEqual(read(v, [], []), [-2])
            self.assertEqual(read(v, [VAST] * s, []), [-2])


class AsItWas(unittest.TestCase):
    def test_what_is_handed_in_is_not_changed(self):
        rows = make(7, 2, 0, text("abc"))[2:]
        damage = Damage(7, 2, rows)
        damage.spoil(0, 4, 3)
        for count in (45, 20, 0):
            d, u = Untouchable(damage.rows[:count]), Untouchable(damage.unknown[:count])
            read(7, d, u)
            self.assertEqual((list(d), list(u)), (damage.rows[:count], damage.unknown[:count]))

    def test_like_calls_answer_alike(self):
        damage = Damage(2, 2, make(2, 2, 0, text("abc"))[2:])
        damage.spoil(0, 4, 3)
        first = read(2, damage.rows, damage.unknown)
        kept = list(first)
        first[3] = 9
        first.append(1)
        read(7, damage.rows, damage.unknown)
        read(2, [], [])
        self.assertEqual(read(2, damage.rows, damage.unknown), kept)

    def test_answer_is_a_list_of_whole_numbers(self):
        rows = make(1, 0, 0, text("abc"))[2:]
        damage = Damage(1, 0, rows)
        damage.spoil(0, 2, 3)
        for answer in (read(1, rows, []), read(1, damage.rows, damage.unknown), read(0, [], []), read(1, [], [])):
            self.assertIs(type(answer), list)
            self.assertEqual({type(number) for number in answer}, {int})


if __name__ == "__main__":
    unittest.main()
