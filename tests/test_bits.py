import itertools
import unittest

from fieldsquares.squares import bits
from helper import ALLOWED, VAST, Untouchable, bits_of_all_cuts, fewest_step_by_step, text


class OneKind(unittest.TestCase):
    def assert_bits(self, t, up_to_9, from_10):
        for v in range(1, 13):
            self.assertEqual(bits(v, t), [up_to_9 if v <= 9 else from_10], (v, t))

    def test_empty_text(self):
        self.assert_bits([], 0, 0)

    def test_digits(self):
        for n, body in {1: 4, 2: 7, 3: 10, 4: 14, 5: 17, 6: 20, 7: 24}.items():
            self.assert_bits(text("9081726"[:n]), 14 + body, 16 + body)

    def test_letters(self):
        for n, body in {1: 6, 2: 11, 3: 17, 4: 22, 5: 28}.items():
            self.assert_bits(text("A:Z $"[:n]), 13 + body, 15 + body)

    def test_bytes(self):
        for n in range(1, 6):
            self.assert_bits([0, 255, 97, 128, 10][:n], 12 + 8 * n, 20 + 8 * n)

    def test_each_byte_alone(self):
        for byte in range(256):
            if byte in ALLOWED["digits"]:
                self.assert_bits([byte], 18, 20)
            elif byte in ALLOWED["letters"]:
                self.assert_bits([byte], 19, 21)
            else:
                self.assert_bits([byte], 20, 28)


class Mixed(unittest.TestCase):
    def test_a_cut_that_pays(self):
        # Bytes and digits: 12 + 8 + 14 + 20, where bytes alone would take 12 + 56.
        self.assertEqual(bits(1, text("a123456")), [54])
        # Letters and bytes: 13 + 33 + 12 + 8, where bytes alone would take 12 + 56.
        self.assertEqual(bits(1, text("ABC123a")), [66])
        # Digits and letters: 14 + 40 + 13 + 22, where letters alone would take 13 + 88.
        self.assertEqual(bits(1, text("123456789012ABCD")), [89])

    def test_a_cut_that_does_not_pay(self):
        self.assertEqual(bits(1, text("a123")), [12 + 32])
        self.assertEqual(bits(1, text("12AB")), [13 + 22])
        self.assertEqual(bits(1, text("AaA")), [12 + 24])
        self.assertEqual(bits(1, text("AB12a")), [12 + 40])
        # Digits and letters would take 14 + 20 + 13 + 22.
        self.assertEqual(bits(1, text("123456ABCD")), [13 + 55])

    def test_a_cut_that_pays_in_size_9_alone(self):
        self.assertEqual(bits(9, text("a123456b")), [12 + 8 + 14 + 20 + 12 + 8])
        self.assertEqual(bits(10, text("a123456b")), [20 + 64])

    def test_a_cut_that_pays_in_both(self):
        self.assertEqual(bits(9, text("a1234567890b")), [12 + 8 + 14 + 34 + 12 + 8])
        self.assertEqual(bits(10, text("a1234567890b")), [20 + 8 + 16 + 34 + 20 + 8])

    def test_every_text_of_a_few_signs_against_every_cut(self):
        for n in range(7):
            for signs in itertools.product("5Aa", repeat=n):
                for v in (9, 10):
                    self.assertEqual(bits(v, text(signs)), [min(bits_of_all_cuts(v, text(signs)))], (v, signs))

    def test_short_texts_against_every_cut(self):
        for signs in ("12345678", "a1234567", "1234567a", "ABCDEFGa", "aABCDEFG", "123456AB", "AB123456",
                      "aaaABCDEFGH", "aa123456bb", "A$1234:", "%%%%%12345", "zz0123456", "[/0:9;@A"):
            for v in (9, 10):
                self.assertEqual(bits(v, text(signs)), [min(bits_of_all_cuts(v, text(signs)))], (v, signs))

    def test_runs_against_the_step_by_step_way(self):
        for order in itertools.permutations("5Aa"):
            for lengths in itertools.product((1, 2, 5, 8, 13), repeat=3):
                signs = "".join(sign * n for sign, n in zip(order, lengths))
                signs += order[0] * lengths[1]
                for v in (9, 10):
                    self.assertEqual(bits(v, text(signs)), [fewest_step_by_step(v, text(signs))], (v, signs))


class Long(unittest.TestCase):
    def test_one_part_of_bytes_up_to_255_in_sizes_up_to_9(self):
        for v in (1, 9):
            self.assertEqual(bits(v, [97] * 255), [12 + 8 * 255])
            self.assertEqual(bits(v, [97] * 256), [24 + 8 * 256])
            self.assertEqual(bits(v, [97] * 400), [24 + 8 * 400])

    def test_one_part_of_bytes_in_sizes_from_10(self):
        for v in (10, 12):
            for n in (255, 256, 257, 400):
                self.assertEqual(bits(v, [97] * n), [20 + 8 * n])

    def test_what_comes_behind_255_bytes_is_cut_best(self):
        self.assertEqual(bits(9, [97] * 255 + text("1")), [12 + 8 * 255 + 18])
        self.assertEqual(bits(9, text("A") + [97] * 255), [12 + 8 * 255 + 19])
        self.assertEqual(bits(9, [97] * 254 + text("12")), [12 + 8 * 254 + 21])
        self.assertEqual(bits(9, [97] * 200 + text("1") + [97] * 55), [24 + 8 * 256])
        self.assertEqual(bits(10, [97] * 255 + text("1")), [20 + 8 * 256])

    def test_400_digits_and_letters_are_one_part(self):
        self.assertEqual(bits(9, text("7") * 400), [14 + 1334])
        self.assertEqual(bits(10, text("7") * 400), [16 + 1334])
        self.assertEqual(bits(9, text("Q") * 400), [13 + 2200])
        self.assertEqual(bits(10, text("Q") * 400), [15 + 2200])

    def test_long_mixed_texts_against_the_step_by_step_way(self):
        patterns = ("a1234567", "ABCDEFG12345678901", "aaaaABCDEFGHIJKLM1", "x" * 130 + "1" * 7, "5" * 19 + "b")
        for pattern in patterns:
            t = text((pattern * 400)[:400])
            for v in (9, 10):
                self.assertEqual(bits(v, t), [fewest_step_by_step(v, t)], (v, pattern))

    def test_every_byte_in_turn(self):
        t = list(range(256)) + list(range(144))
        for v in (9, 10):
            self.assertEqual(bits(v, t), [fewest_step_by_step(v, t)])


class Refusals(unittest.TestCase):
    def test_no_such_size(self):
        for v in (0, 13, 2 ** 64 + 1, VAST):
            for t in ([], [97], [97] * 401):
                self.assertEqual(bits(v, t), [-1])

    def test_texts_too_long(self):
        for byte in (48, 65, 97):
            self.assertGreater(bits(12, [byte] * 400)[0], 0)
            for n in (401, 402, 65536):
                for v in (1, 9, 10, 12):
                    self.assertEqual(bits(v, [byte] * n), [-1])


class AsItWas(unittest.TestCase):
    def test_what_is_handed_in_is_not_changed(self):
        signs = text("ab12345678AB") * 25
        t = Untouchable(signs)
        bits(9, t)
        bits(10, t)
        self.assertEqual(list(t), signs)

    def test_like_calls_answer_alike(self):
        t = text("a123456ABCDEFGH")
        first = bits(1, t)
        expected = list(first)
        first.append(1)
        bits(10, t)
        bits(1, text("999"))
        bits(0, t)
        self.assertEqual(bits(1, t), expected)

    def test_answer_is_a_list_of_whole_numbers(self):
        for answer in (bits(1, []), bits(1, [1]), bits(0, [])):
            self.assertIs(type(answer), list)
            self.assertEqual([type(number) for number in answer], [int])


if __name__ == "__main__":
    unittest.main()
