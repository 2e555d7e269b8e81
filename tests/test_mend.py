import itertools
import unittest

from fieldsquares.squares import check, mend
from helper import VAST, Sequence, Untouchable, filled, is_word, mended_by_trying

# For many numbers of checks, rows as short and as long as may be among them.
LENGTHS = [(e, n) for e in (1, 2, 3, 4, 5, 7, 10, 17, 30, 63, 64) for n in sorted({e, e + 1, e + 12, 255})]


def word_of(sequence, e, n):
    data = sequence.bytes(n - e)
    return data + check(e, data)[1:]


def changed(sequence, row, places):
    """The row with another byte at each of these places."""
    found = list(row)
    for place in places:
        found[place] ^= 1 + sequence.below(255)
    return found


def others(row, word):
    return len([i for i in range(len(row)) if row[i] != word[i]])


def all_words(e, n):
    """All words of that length, one by one by the values that they must have; for short rows alone."""
    for data in itertools.product(range(256), repeat=n - e):
        yield filled(list(data) + [0] * e, e, list(range(n - e, n)))


class UpToWhatTheChecksCarry(unittest.TestCase):
    def assert_mended(self, e, word, row, lost):
        self.assertEqual(mend(e, row, lost), [others(row, word), len(word)] + word, (e, row, lost))

    def test_words_as_they_are(self):
        for e, n in LENGTHS:
            word = word_of(Sequence(n), e, n)
            self.assertTrue(is_word(word, e))
            self.assertEqual(mend(e, word, []), [0, n] + word, (e, n))

    def test_wrong_and_lost_bytes_with_twice_the_one_and_the_other_just_e_and_one_less(self):
        for e, n in LENGTHS:
            sequence = Sequence(300 * e + n)
            word = word_of(sequence, e, n)
            for b in sorted({0, 1, 2, e // 3, e // 2, e - 2, e - 1, e}):
                for together in (e, e - 1):
                    if 0 <= b <= together and (together - b) % 2 == 0:
                        a = (together - b) // 2
                        places = sequence.some(range(n), a + b)
                        lost = sequence.some(places, b)
                        row = changed(sequence, word, places)
                        self.assertEqual(others(row, word), a + b)
                        self.assert_mended(e, word, row, lost)

    def test_every_split_between_wrong_and_lost(self):
        for e, n in ((1, 6), (2, 6), (3, 12), (6, 20), (9, 9), (10, 255)):
            sequence = Sequence(e)
            word = word_of(sequence, e, n)
            for b in range(e + 1):
                for a in range((e - b) // 2 + 1):
                    places = sequence.some(range(n), a + b)
                    self.assert_mended(e, word, changed(sequence, word, places), sequence.some(places, b))

    def test_at_the_first_and_the_last_places(self):
        for e, n in LENGTHS:
            sequence = Sequence(e + n)
            word = word_of(sequence, e, n)
            for a, b in ((e // 2, 0), (0, e), (e // 4, e - 2 * (e // 4)), ((e - 1) // 2, 1)):
                if 2 * a + b <= e:
                    first, last = list(range(a + b)), list(range(n - a - b, n))
                    for places in (first, last):
                        row = changed(sequence, word, places)
                        self.assert_mended(e, word, row, places[:b])
                        self.assert_mended(e, word, row, places[a:])

    def test_one_wrong_byte_wherever_it_is(self):
        for e, n in ((2, 2), (2, 30), (3, 255), (64, 70)):
            sequence = Sequence(n)
            word = word_of(sequence, e, n)
            for place in range(n):
                self.assert_mended(e, word, changed(sequence, word, [place]), [])

    def test_one_lost_byte_wherever_it_is_and_whatever_it_came_as(self):
        word = word_of(Sequence(8), 1, 12)
        for place in range(12):
            for byte in range(256):
                row = word[:place] + [byte] + word[place + 1:]
                self.assert_mended(1, word, row, [place])

    def test_lost_places_whose_bytes_are_right(self):
        for e, n in LENGTHS:
            sequence = Sequence(e * n)
            word = word_of(sequence, e, n)
            for b in {1, e // 2, e} - {0}:
                lost = sequence.some(range(n), b)
                self.assertEqual(mend(e, word, lost), [0, n] + word, (e, n, b))
                # Some of the lost ones right, some others, and as many wrong ones besides as may be.
                kept = [place for place in range(n) if place not in lost]
                wrong = sequence.some(kept, (e - b) // 2)
                row = changed(sequence, word, wrong + lost[::2])
                self.assertEqual(mend(e, row, lost), [len(wrong + lost[::2]), n] + word, (e, n, b))

    def test_lost_places_alone_as_many_as_there_are_checks(self):
        for e, n in LENGTHS:
            sequence = Sequence(e + 7 * n)
            word = word_of(sequence, e, n)
            for lost in (list(range(e)), list(range(n - e, n)), sequence.some(range(n), e)):
                self.assert_mended(e, word, changed(sequence, word, lost), lost)
                blank = [0 if i in lost else byte for i, byte in enumerate(word)]
                self.assert_mended(e, word, blank, lost)

    def test_checks_that_are_lost_are_those_that_check_answers(self):
        for e in (1, 2, 64):
            data = Sequence(e).bytes(20)
            answer = mend(e, data + [0] * e, list(range(20, 20 + e)))
            self.assertEqual(answer[2:], data + check(e, data)[1:])

    def test_rows_of_checks_alone(self):
        # The one word of e bytes is that of e bytes 0.
        for e in (1, 2, 3, 8, 64):
            sequence = Sequence(e)
            for wrong in range(e // 2 + 1):
                row = changed(sequence, [0] * e, sequence.some(range(e), wrong))
                self.assertEqual(mend(e, row, []), [wrong, e] + [0] * e)
            row = changed(sequence, [0] * e, range(e))
            self.assertEqual(mend(e, row, list(range(e))), [e, e] + [0] * e)
            self.assertEqual(mend(e, row, []), [-2])


class Beyond(unittest.TestCase):
    def test_one_wrong_byte_with_one_check(self):
        word = word_of(Sequence(1), 1, 9)
        for place in range(9):
            self.assertEqual(mend(1, changed(Sequence(place), word, [place]), []), [-2])

    def test_one_wrong_byte_or_lost_byte_too_many(self):
        # With so many checks few rows are near any word; these aren't.
        for e, n in ((17, 26), (30, 40), (64, 90), (64, 255)):
            sequence = Sequence(e + n)
            word = word_of(sequence, e, n)
            for b in (0, 1, e // 2):
                a = (e - b) // 2 + 1
                places = sequence.some(range(n), a + b)
                lost = sequence.some(places, b)
                self.assertGreater(2 * a + b, e)
                self.assertEqual(mend(e, changed(sequence, word, places), lost), [-2], (e, n, b))

    def test_more_lost_places_than_checks(self):
        for e, n in LENGTHS:
            if n > e:
                word = word_of(Sequence(n), e, n)
                row = changed(Sequence(n), word, range(n))
                for lost in (list(range(e + 1)), list(range(n - e - 1, n)), list(range(n))):
                    # Even a word as it is: so many lost places are too many by themselves.
                    self.assertEqual(mend(e, word, lost), [-2], (e, n))
                    self.assertEqual(mend(e, row, lost), [-2], (e, n))

    def test_as_many_lost_as_checks_and_a_wrong_byte_make_another_word(self):
        for e, n in LENGTHS:
            if n > e:
                sequence = Sequence(e + n)
                word = word_of(sequence, e, n)
                lost = list(range(n - e, n))
                row = changed(sequence, word, [0])
                self.assertEqual(mend(e, row, lost), [others(row, filled(row, e, lost)), n] + filled(row, e, lost))

    def test_a_row_between_two_words(self):
        # (x + 1) (x + 2) .. for six checks: a word with seven bytes that aren't 0, as few as can be.
        word = [1] + check(6, [1])[1:]
        self.assertEqual(others(word, [0] * 7), 7)
        for count in range(8):
            row = word[:count] + [0] * (7 - count)
            if count <= 3:
                self.assertEqual(mend(6, row, []), [count, 7] + [0] * 7)
            else:
                self.assertEqual(mend(6, row, []), [7 - count, 7] + word)
        word = [1] + check(7, [1])[1:]
        for count in range(9):
            row = word[:count] + [0] * (8 - count)
            expected = {True: [count, 8] + [0] * 8, False: [8 - count, 8] + word}[count < 4]
            self.assertEqual(mend(7, row, []), [-2] if count == 4 else expected)


class AgainstAllWords(unittest.TestCase):
    def near_words(self, words, e, row, lost):
        found = []
        for word in words:
            wrong = [i for i in range(len(row)) if row[i] != word[i] and i not in lost]
            if 2 * len(wrong) + len(lost) <= e:
                found.append(word)
        return found

    def test_every_word_of_short_rows(self):
        seen = {0: 0, 1: 0}
        for e, n in ((1, 1), (1, 2), (2, 2), (2, 3), (3, 3), (3, 4), (4, 5), (5, 6)):
            words = list(all_words(e, n))
            self.assertEqual(len(words), 256 ** (n - e))
            for i in range(24):
                sequence = Sequence(1000 * e + i)
                row = sequence.bytes(n)
                if i % 3:
                    near = words[sequence.below(len(words))]
                    row = changed(sequence, near, sequence.some(range(n), sequence.below(n)))
                for count in range(min(n, e + 1) + 1):
                    lost = sequence.some(range(n), count)
                    near = self.near_words(words, e, row, lost)
                    self.assertLessEqual(len(near), 1)
                    expected = [others(row, near[0]), n] + near[0] if near else [-2]
                    seen[len(near)] += 1
                    self.assertEqual(mend(e, row, lost), expected, (e, row, lost))
        self.assertTrue(min(seen.values()) > 100, seen)

    def test_every_row_of_two_bytes_with_two_checks(self):
        # The one word is 0, 0.
        for row in itertools.product(range(0, 256, 5), repeat=2):
            wrong = others(row, (0, 0))
            self.assertEqual(mend(2, list(row), []), [wrong, 2, 0, 0] if wrong <= 1 else [-2])

    def test_every_choice_of_wrong_places(self):
        seen = {True: 0, False: 0}
        for e, n, b in ((2, 8, 0), (2, 255, 0), (3, 9, 1), (3, 100, 1), (3, 20, 0), (4, 12, 0), (4, 60, 2),
                        (5, 9, 3), (5, 10, 0), (6, 12, 4), (6, 12, 2), (7, 9, 3)):
            for i in range(12):
                sequence = Sequence(700 * i + n)
                row = sequence.bytes(n)
                if i % 2:
                    row = changed(sequence, word_of(sequence, e, n), sequence.some(range(n), 1 + i % 4))
                lost = sequence.some(range(n), b)
                word = mended_by_trying(row, e, lost)
                seen[word is None] += 1
                expected = [-2] if word is None else [others(row, word), n] + word
                self.assertEqual(mend(e, row, lost), expected, (e, n, b, i))
        self.assertTrue(min(seen.values()) > 20, seen)

    def test_what_is_answered_is_a_word_and_as_near_as_asked(self):
        sequence = Sequence(6)
        mended = 0
        for i in range(600):
            e = 1 + sequence.below(10)
            n = e + sequence.below(256 - e)
            row = changed(sequence, word_of(sequence, e, n), sequence.some(range(n), min(n, sequence.below(e + 2))))
            lost = sequence.some(range(n), sequence.below(e + 1))
            answer = mend(e, row, lost)
            if answer != [-2]:
                mended += 1
                word = answer[2:]
                wrong = [p for p in range(n) if row[p] != word[p] and p not in lost]
                self.assertEqual(answer[:2], [others(row, word), len(word)])
                self.assertTrue(is_word(word, e))
                self.assertLessEqual(2 * len(wrong) + len(lost), e)
        self.assertTrue(100 < mended < 500, mended)


class Refusals(unittest.TestCase):
    def test_no_such_number_of_checks(self):
        for e in (0, 65, 66, 255, 256, 2 ** 64 + 4, 2 ** 1023, VAST):
            for d in ([], [0] * 10, [0] * 65, [0] * 255, [1] * 256, [0] * 65536):
                self.assertEqual(mend(e, d, []), [-1], (e, len(d)))

    def test_too_few_bytes(self):
        for e in (1, 2, 3, 33, 64):
            self.assertEqual(mend(e, [0] * e, []), [0, e] + [0] * e)
            for n in {0, e // 2, e - 1}:
                self.assertEqual(mend(e, [0] * n, []), [-1], (e, n))

    def test_too_many_bytes(self):
        for e in (1, 2, 64):
            self.assertEqual(mend(e, [0] * 255, []), [0, 255] + [0] * 255)
            for n in (256, 257, 1000, 65536):
                self.assertEqual(mend(e, [0] * n, []), [-1], (e, n))

    def test_places_that_are_not_rising(self):
        for k in ([1, 0], [0, 2, 1], [1, 0, 2], [3, 2, 1, 0], [0, 1, 3, 2], [5, 0], [9, 8]):
            self.assertEqual(mend(4, [0] * 10, sorted(k)), [0, 10] + [0] * 10)
            self.assertEqual(mend(4, [0] * 10, k), [-1], k)

    def test_like_places(self):
        for k in ([0, 0], [4, 4], [9, 9], [0, 3, 3], [0, 0, 3], [1, 1, 1, 1], [0] * 1000):
            self.assertEqual(mend(4, [0] * 10, k), [-1], k)

    def test_places_that_there_are_not(self):
        for n in (4, 10, 255):
            self.assertEqual(mend(4, [0] * n, [n - 1]), [0, n] + [0] * n)
            for place in (n, n + 1, 255, 256, 2 ** 64, 2 ** 1023, VAST):
                self.assertEqual(mend(4, [0] * n, [place]), [-1], (n, place))
                self.assertEqual(mend(4, [0] * n, [0, 1, place]), [-1], (n, place))

    def test_places_as_many_and_as_large_as_may_be(self):
        vast = [VAST - 1000 + i for i in range(1000)]
        self.assertEqual(mend(64, [0] * 255, vast), [-1])
        self.assertEqual(mend(64, [0] * 255, list(range(1000))), [-1])
        self.assertEqual(mend(64, [0] * 255, list(range(254)) + [VAST]), [-1])
        self.assertEqual(mend(64, [0] * 255, list(range(255))), [-2])

    def test_minus_1_ahead_of_minus_2(self):
        row = [1, 2, 3, 4, 5, 6, 7, 8]
        self.assertEqual(mend(2, row, []), [-2])
        self.assertEqual(mend(2, row, [0, 1, 2]), [-2])
        for e, d, k in ((0, row, []), (65, row, []), (VAST, row, []), (9, row, []), (2, row * 40, []), (2, [1], []),
                        (2, row, [8]), (2, row, [1, 0]), (2, row, [0, 1, 1]), (2, row, [0, 1, 8]),
                        (2, row, [0, 1, 2, VAST]), (2, row, [0, 2, 1, 3]), (0, [], [VAST, 0])):
            self.assertEqual(mend(e, d, k), [-1], (e, d, k))


class AsItWas(unittest.TestCase):
    def test_what_is_handed_in_is_not_changed(self):
        sequence = Sequence(2)
        word = word_of(sequence, 10, 40)
        for count, k in ((0, []), (0, [1, 2]), (3, [0, 4]), (9, []), (3, list(range(11))), (3, [4, 3]), (3, [40])):
            row = changed(sequence, word, sequence.some(range(40), count))
            handed, places = Untouchable(row), Untouchable(k)
            mend(10, handed, places)
            self.assertEqual((list(handed), list(places)), (row, k))

    def test_what_is_answered_is_not_what_was_handed_in(self):
        word = word_of(Sequence(3), 4, 9)
        answer = mend(4, word, [])
        kept = list(word)
        answer[2] ^= 1
        self.assertEqual(word, kept)

    def test_like_calls_answer_alike(self):
        word = word_of(Sequence(5), 6, 30)
        for row, k in ((changed(Sequence(6), word, [3, 9]), [4]), (word, []), (list(range(30)), []), (word, [30])):
            first = mend(6, row, k)
            kept = list(first)
            first[0] = 99
            first.append(1)
            mend(2, [1, 2, 3], [])
            mend(0, [], [])
            mend(6, changed(Sequence(9), word, [1]), [5])
            self.assertEqual(mend(6, row, k), kept)

    def test_answers_are_lists_of_whole_numbers(self):
        word = word_of(Sequence(5), 6, 30)
        for answer in (mend(6, word, []), mend(6, changed(Sequence(6), word, [3, 9]), [4]), mend(6, word, [30]),
                       mend(6, list(range(30)), [])):
            self.assertIs(type(answer), list)
            self.assertEqual({type(number) for number in answer}, {int})


if __name__ == "__main__":
    unittest.main()
