import unittest

from fieldsquares.squares import check, make
from helper import (
    ALL_SIZES_AND_LEVELS, DATA_BYTES, PRODUCTS, VAST, Sequence, Untouchable, block_lengths, blocks_off, bytes_off,
    checks_of_row, is_word,
)


class Words(unittest.TestCase):
    def assert_word(self, e, row):
        answer = check(e, row)
        self.assertEqual((answer[0], len(answer)), (e, e + 1), (e, row))
        self.assertTrue(all(0 <= byte <= 255 for byte in answer[1:]), (e, row))
        self.assertTrue(is_word(row + answer[1:], e), (e, row))

    def test_bytes_and_checks_make_a_word(self):
        for e in range(1, 65):
            for n in (1, 2, 3, 20, 100, 191):
                self.assert_word(e, Sequence(100 * e + n).bytes(n))

    def test_rows_of_like_bytes(self):
        for e in (1, 2, 3, 64):
            for byte in (0, 1, 128, 255):
                for n in (1, 2, 191):
                    self.assert_word(e, [byte] * n)
            self.assertEqual(check(e, [0] * 100), [e] + [0] * e)

    def test_each_byte_alone(self):
        for byte in range(256):
            # (x + 1) (x + 2) is x^2 + 3 x + 2.
            self.assertEqual(check(1, [byte]), [1, byte])
            self.assertEqual(check(2, [byte]), [2, PRODUCTS[3][byte], PRODUCTS[2][byte]])

    def test_one_check_is_the_sum(self):
        row = Sequence(3).bytes(254)
        total = 0
        for byte in row:
            total ^= byte
        self.assertEqual(check(1, row), [1, total])

    def test_bytes_0_ahead_change_nothing(self):
        row = Sequence(4).bytes(30)
        for e in (1, 2, 10, 64):
            self.assertEqual(check(e, [0] * 50 + row), check(e, row))

    def test_against_solved_equations(self):
        for e, n in ((1, 9), (2, 9), (3, 40), (7, 19), (17, 9), (30, 116), (64, 191)):
            row = Sequence(e).bytes(n)
            self.assertEqual(check(e, row), [e] + checks_of_row(row, e), (e, n))

    def test_known_checks(self):
        # "HELLO WORLD" in size 1, level 2, as publicly known for this code.
        data = [0x20, 0x5B, 0x0B, 0x78, 0xD1, 0x72, 0xDC, 0x4D, 0x43, 0x40, 0xEC, 0x11, 0xEC]
        known = [0xA8, 0x48, 0x16, 0x52, 0xD9, 0x36, 0x9C, 0x00, 0x2E, 0x0F, 0xB4, 0x7A, 0x10]
        self.assertEqual(check(13, data), [13] + known)

    def test_the_blocks_of_make_have_them(self):
        for v, l in ALL_SIZES_AND_LEVELS:
            lengths, e = block_lengths(v, l)
            t = Sequence(v + 20 * l).bytes(DATA_BYTES[v][l] - 3)
            blocks = blocks_off(v, l, bytes_off(v, 3, make(v, l, 3, t)[2:]))
            self.assertEqual(len(blocks), len(lengths))
            for length, block in zip(lengths, blocks):
                self.assertEqual(check(e, block[:length]), [e] + block[length:], (v, l))


class Edges(unittest.TestCase):
    def test_the_empty_row(self):
        for e in range(1, 65):
            self.assertEqual(check(e, []), [e] + [0] * e)

    def test_255_bytes_with_the_checks_and_256(self):
        for e in (1, 2, 30, 63, 64):
            row = Sequence(e).bytes(256 - e)
            answer = check(e, row[1:])
            self.assertTrue(is_word(row[1:] + answer[1:], e), e)
            self.assertEqual(len(row[1:] + answer[1:]), 255)
            self.assertEqual(check(e, row), [-1], e)

    def test_too_many_bytes(self):
        for e in (1, 2, 64):
            for n in (255, 256, 257, 1000, 65536):
                self.assertEqual(check(e, [1] * n), [-1], (e, n))

    def test_no_such_number_of_checks(self):
        for e in (0, 65, 66, 128, 255, 256, 2 ** 64 + 1, 2 ** 1023, VAST):
            for n in (0, 1, 100, 65536):
                self.assertEqual(check(e, [7] * n), [-1], (e, n))


class AsItWas(unittest.TestCase):
    def test_what_is_handed_in_is_not_changed(self):
        for e, n in ((1, 0), (10, 30), (64, 191), (64, 192), (0, 3)):
            row = Sequence(n).bytes(n)
            handed = Untouchable(row)
            check(e, handed)
            self.assertEqual(list(handed), row)

    def test_like_calls_answer_alike(self):
        for e, row in ((3, [1, 2, 3]), (64, [255]), (0, [1])):
            first = check(e, row)
            kept = list(first)
            first[0] = 99
            first.append(1)
            check(7, [9, 9])
            check(0, [])
            self.assertEqual(check(e, row), kept)

    def test_answers_are_lists_of_whole_numbers(self):
        for answer in (check(1, []), check(64, [1, 2]), check(0, []), check(1, [1] * 255)):
            self.assertIs(type(answer), list)
            self.assertEqual({type(number) for number in answer}, {int})


if __name__ == "__main__":
    unittest.main()
