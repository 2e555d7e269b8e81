import unittest

from fieldsquares.eightbits import Products, checks_of, row_value
from fieldsquares.mending import mended
from helper import PRODUCTS, Sequence, checks_of_row, filled, is_word, mended_by_trying, power_of_2, value_at


class Numbers(unittest.TestCase):
    def setUp(self):
        self.products = Products()

    def test_every_product(self):
        for a in range(256):
            self.assertEqual([self.products.times(a, b) for b in range(256)], PRODUCTS[a], a)

    def test_products_by_hand(self):
        self.assertEqual(self.products.times(2, 128), 0x1D)
        self.assertEqual(self.products.times(4, 128), 0x3A)
        self.assertEqual(self.products.times(3, 3), 5)

    def test_inverses(self):
        for a in range(1, 256):
            self.assertEqual(self.products.times(a, self.products.inverse(a)), 1, a)

    def test_powers(self):
        for k in range(600):
            self.assertEqual(self.products.power(k), power_of_2(k), k)
            self.assertEqual(self.products.times(self.products.power(-k), power_of_2(k)), 1, k)

    def test_values(self):
        row = Sequence(1).bytes(30)
        for x in range(256):
            self.assertEqual(row_value(self.products, row, x), value_at(row, x), x)
        self.assertEqual(row_value(self.products, [], 3), 0)


class Checks(unittest.TestCase):
    def test_checks_make_a_word(self):
        for e in (1, 2, 7, 10, 30, 64):
            for n in (1, 2, 40, 191):
                row = Sequence(e + n).bytes(n)
                self.assertTrue(is_word(row + checks_of(Products(), e, row), e), (e, n))

    def test_against_solved_equations(self):
        for e in (1, 3, 7, 13):
            row = Sequence(e).bytes(12)
            self.assertEqual(checks_of(Products(), e, row), checks_of_row(row, e))


class Mended(unittest.TestCase):
    def setUp(self):
        self.products = Products()

    def spoiled(self, sequence, word, wrong, lost):
        places = sequence.some(range(len(word)), wrong + lost)
        chosen = sequence.some(places, wrong)
        row = list(word)
        for place in places:
            row[place] ^= 1 + sequence.below(255) if place in chosen else sequence.below(256)
        return row, [place for place in places if place not in chosen]

    def test_up_to_what_the_checks_carry(self):
        for e, n in ((1, 5), (2, 3), (7, 26), (8, 8), (17, 26), (30, 81), (64, 255), (64, 65)):
            sequence = Sequence(e)
            data = sequence.bytes(n - e)
            word = data + checks_of(self.products, e, data)
            for lost in range(e + 1):
                for wrong in {0, (e - lost) // 4, (e - lost) // 2}:
                    row, gone = self.spoiled(sequence, word, wrong, lost)
                    kept = list(row)
                    self.assertEqual(mended(self.products, e, row, gone), word, (e, n, wrong, lost))
                    self.assertEqual(row, kept)

    def test_too_many_lost(self):
        word = [1, 2, 3] + checks_of(self.products, 4, [1, 2, 3])
        self.assertEqual(mended(self.products, 4, word, [0, 2, 4, 6]), word)
        self.assertIsNone(mended(self.products, 4, word, [0, 2, 4, 5, 6]))
        self.assertIsNone(mended(self.products, 4, word, list(range(7))))

    def test_any_rows_against_every_choice_of_wrong_places(self):
        # With so few bytes and checks, rows by chance are often near a word and often near none.
        found = {True: 0, False: 0}
        for e, n, lost in ((1, 4, 0), (1, 4, 1), (2, 8, 0), (2, 30, 0), (2, 200, 0), (3, 9, 1), (3, 40, 1),
                           (4, 6, 0), (4, 14, 2), (4, 60, 2), (5, 9, 3), (5, 5, 1), (6, 12, 4), (6, 120, 4)):
            for seed in range(12):
                sequence = Sequence(1000 * seed + n)
                row = sequence.bytes(n)
                if seed % 2:
                    # Near a word, so that most choices lead somewhere.
                    row = filled(row, e, sequence.some(range(n), e))
                    for place in sequence.some(range(n), 1 + seed % 3):
                        row[place] ^= 1 + sequence.below(255)
                gone = sequence.some(range(n), lost)
                expected = mended_by_trying(row, e, gone)
                found[expected is None] += 1
                self.assertEqual(mended(self.products, e, row, gone), expected, (e, n, lost, seed))
        self.assertTrue(found[True] > 20 and found[False] > 20, found)

    def test_every_mended_word_checks_and_is_near(self):
        sequence = Sequence(5)
        for i in range(300):
            e = 1 + sequence.below(8)
            row = sequence.bytes(e + sequence.below(40))
            gone = sequence.some(range(len(row)), sequence.below(e + 1))
            word = mended(self.products, e, row, gone)
            if word is not None:
                wrong = [p for p in range(len(row)) if row[p] != word[p] and p not in gone]
                self.assertTrue(is_word(word, e))
                self.assertLessEqual(2 * len(wrong) + len(gone), e)


if __name__ == "__main__":
    unittest.main()
