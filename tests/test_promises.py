"""The four promises over several calls together; what is promised of a call by itself stands in its own tests."""

import itertools
import unittest

from fieldsquares.blocks import block_places
from fieldsquares.squares import bits, check, least, make, mend, read, room, weigh
from helper import (
    ALL_SIZES_AND_LEVELS, ALLOWED, DATA_BYTES, KIND_NUMBERS, Damage, Sequence, answer_of, bits_of_cut, block_lengths,
    block_numbers, blocks_off, byte_fields, bytes_off, data_of_bits, data_off, fields_by_block, fixed_picture, flipped,
    is_word, length_bits, level_mask_copies, next_byte_bits, rows_with, square_of_bytes, text, weight_terms,
)


def all_cuts(v, t):
    """Every cut of the text with its bits: all first parts with all cuts of what's behind them."""
    if not t:
        return [(0, ())]
    found = []
    for kind in ALLOWED:
        cost = 4 + length_bits(kind, v)
        for n in range(1, len(t) + 1):
            if t[n - 1] not in ALLOWED[kind]:
                break
            cost += next_byte_bits(kind, n - 1)
            found += [(cost + rest, ((kind, n),) + cut) for rest, cut in all_cuts(v, t[n:])]
    return found


def in_order(costed):
    """The least by this is the text's cut."""
    cost, cut = costed
    return cost, len(cut), [(KIND_NUMBERS[kind], -n) for kind, n in cut]


class FewestAndLightest(unittest.TestCase):
    def assert_best(self, v, t):
        cuts = all_cuts(v, t)
        fewest, cut = min(cuts, key=in_order)
        self.assertEqual(bits(v, t), [fewest], (v, t))
        own = bits_of_cut(v, t, cut)
        self.assertEqual(len(own), fewest, (v, t))
        self.assertEqual(data_off(v, 0, 6, make(v, 0, 6, t)[2:]), data_of_bits(v, 0, own), (v, t))

    def test_every_text_of_a_few_bytes_against_every_cut(self):
        for signs in ("5Aa", "0:\xff"):
            for n in range(5):
                for chosen in itertools.product(signs, repeat=n):
                    for v in (2, 10):
                        self.assert_best(v, text(chosen))

    def test_texts_whose_best_cut_has_several_parts_against_every_cut(self):
        for signs in ("a123456", "123456a", "a12345b", "ABCDEFa", "aABCDEF", "5555AAAa", "aAAA5555", "a55A5555"):
            for v in (2, 9, 10):
                self.assert_best(v, text(signs))

    def test_the_least_size_fits_and_those_below_do_not(self):
        for unit, step in (("7", 61), ("Q", 57), ("q", 53), ("ab1234567", 8), ("QQQQQQQ0123456789z", 4)):
            for count in range(0, 401 // len(unit), step):
                t = text(unit * count)
                needed = {v: bits(v, t)[0] for v in range(1, 13)}
                for l, v in itertools.product(range(4), (1, 5, 10)):
                    fitting = [w for w in range(v, 13) if needed[w] <= room(w, l)[0]]
                    self.assertEqual(least(l, v, t), fitting[:1] or [-2], (l, v, t))
                self.assert_made_from_the_least_size_on(3, t)

    def assert_made_from_the_least_size_on(self, l, t):
        found = least(l, 1, t)[0]
        above = 13 if found == -2 else found
        for v in range(max(1, above - 1), min(12, above) + 1):
            self.assertEqual(make(v, l, 0, t)[0], 0 if v == found else -2, (l, v, t))

    def test_no_mask_is_lighter_than_the_one_chosen(self):
        for v, l in ALL_SIZES_AND_LEVELS:
            t = text("7") * (v + l) + Sequence(99 * v + l).bytes(2)
            squares = [make(v, l, m, t)[2:] for m in range(8)]
            weights = [sum(weight_terms(v, rows)) for rows in squares]
            self.assertEqual([weigh(v, rows)[0] for rows in squares], weights, (v, l))
            answer = make(v, l, 8, t)
            self.assertEqual(answer[0], weights.index(min(weights)), (v, l))
            self.assertEqual(answer[2:], squares[answer[0]], (v, l))


class ReadAgain(unittest.TestCase):
    def test_with_as_many_wrong_and_unknown_fields_as_the_checks_carry(self):
        for v, l in ALL_SIZES_AND_LEVELS:
            t = Sequence(v * l).bytes(min(DATA_BYTES[v][l] - 3, 70))
            made = make(v, l, 8, t)
            self.assertEqual(read(v, made[2:], []), answer_of(l, made[0], t), (v, l))
            for copy in (0, 1):
                damage = Damage(v, l, made[2:], 1000 * v + 10 * l + copy)
                wrong, lost = self.spoil_blocks(damage, v, l)
                self.spoil_fixed(damage, v, l, copy)
                expected = answer_of(l, made[0], t, copy, wrong, lost)
                self.assertEqual(read(v, damage.rows, damage.unknown), expected, (v, l, copy))

    def spoil_blocks(self, damage, v, l):
        """Each block just as far as its checks carry; how many bytes are wrong and lost by that."""
        lengths, e = block_lengths(v, l)
        all_wrong = all_lost = 0
        for k in range(len(lengths)):
            lost = damage.sequence.below(e + 1)
            wrong = (e - lost) // 2
            damage.spoil(k, wrong, lost)
            all_wrong, all_lost = all_wrong + wrong, all_lost + lost
        return all_wrong, all_lost

    def spoil_fixed(self, damage, v, l, copy):
        """Fixed fields, and of this copy of level and mask as many as may be; of those before it one too many."""
        copies = level_mask_copies(v)
        fixed = [field for field in fixed_picture(v, l, 0) if field not in copies[0] + copies[1]]
        own = damage.sequence.some(copies[copy], 4)
        damage.rows = flipped(damage.rows, damage.sequence.some(fixed, 20) + own[:2])
        damage.unknown = flipped(damage.unknown, damage.sequence.some(fixed, 20) + own[2:])
        for before in copies[:copy]:
            damage.unknown = flipped(damage.unknown, damage.sequence.some(before, 7))

    def test_around_what_the_checks_carry_read_goes_by_what_mend_says_of_each_block(self):
        seen = {True: 0, False: 0}
        for v, l in ((1, 0), (1, 1), (2, 0), (3, 2), (5, 2), (7, 3), (10, 0), (12, 3)):
            made = make(v, l, 8, text("abcde"))
            lengths, e = block_lengths(v, l)
            for seed in range(12):
                damage = Damage(v, l, made[2:], seed)
                for k in range(len(lengths)):
                    lost = damage.sequence.below(e + 1)
                    damage.spoil(k, (e - lost) // 2, lost)
                # In one block a wrong byte more, which may come to stand where one is wrong or lost already.
                damage.spoil(damage.sequence.below(len(lengths)), 1, 0)
                answer = read(v, damage.rows, damage.unknown)
                seen[answer == [-3]] += 1
                self.assert_as_mend_says(v, l, made[0], damage, answer)
        self.assertTrue(min(seen.values()) > 10, seen)

    def assert_as_mend_says(self, v, l, m, damage, answer):
        e = block_lengths(v, l)[1]
        unknown = [any(damage.unknown[y] >> x & 1 for x, y in fields) for fields in byte_fields(v)[0]]
        wrong, words = 0, []
        for row, gone in zip(blocks_off(v, l, bytes_off(v, m, damage.rows)), blocks_off(v, l, unknown)):
            lost = [place for place in range(len(row)) if gone[place]]
            word = mend(e, row, lost)[2:]
            wrong += len([place for place, byte in enumerate(word) if byte != row[place] and place not in lost])
            words.append(word)
        if [] in words:
            self.assertEqual(answer, [-3], (v, l))
            return
        # What is mended is read like a square that came so at once.
        mended = read(v, square_of_bytes(v, l, m, [words[k][i] for k, i in block_numbers(v, l)]), [])
        if mended != [-4]:
            self.assertEqual(mended[:6], [0, l, m, 0, 0, 0], (v, l))
            mended[4:6] = [wrong, sum(unknown)]
        self.assertEqual(answer, mended, (v, l))


class MendedWords(unittest.TestCase):
    def test_they_check_and_are_near(self):
        sequence = Sequence(12)
        seen = {True: 0, False: 0}
        for i in range(400):
            e = 1 + sequence.below(12)
            data = sequence.bytes(sequence.below(256 - e))
            row = data + check(e, data)[1:]
            for place in sequence.some(range(len(row)), min(len(row), sequence.below(e + 1))):
                row[place] = sequence.below(256)
            lost = sequence.some(range(len(row)), sequence.below(e + 1))
            answer = mend(e, row, lost)
            seen[answer == [-2]] += 1
            if answer != [-2]:
                self.assert_checks_and_is_near(e, row, lost, answer)
        self.assertTrue(min(seen.values()) > 50, seen)

    def assert_checks_and_is_near(self, e, row, lost, answer):
        word = answer[2:]
        self.assertTrue(is_word(word, e), (e, row, lost))
        self.assertEqual(check(e, word[:-e])[1:], word[-e:], (e, row, lost))
        off = [place for place in range(len(row)) if row[place] != word[place]]
        self.assertEqual(answer[:2], [len(off), len(row)], (e, row, lost))
        self.assertLessEqual(2 * len(set(off) - set(lost)) + len(lost), e, (e, row, lost))

    def test_two_words_differ_in_more_places_than_there_are_checks(self):
        # So none that is as near as it may be has another one as near.
        sequence = Sequence(13)
        for e in range(1, 65):
            for n in (1, 2, 30, 255 - e):
                data = sequence.bytes(n)
                for place in (0, n // 2, n - 1):
                    other = list(data)
                    other[place] ^= 1 + sequence.below(255)
                    pairs = zip(data + check(e, data)[1:], other + check(e, other)[1:])
                    self.assertEqual(len([1 for a, b in pairs if a != b]), e + 1, (e, n, place))


class EachByteInOnePlace(unittest.TestCase):
    """That each field is fixed or has one place in the order stands in test_place."""

    def test_the_blocks_have_each_byte_of_the_square_once(self):
        for v, l in ALL_SIZES_AND_LEVELS:
            count = len(byte_fields(v)[0])
            self.assertEqual(sorted(sum(block_places(v, l), [])), list(range(count)), (v, l))
            self.assertEqual(len(set(block_numbers(v, l))), count, (v, l))

    def test_each_byte_counts_once_where_it_is_wrong_or_lost(self):
        for v, l in ALL_SIZES_AND_LEVELS:
            made = make(v, l, 5, text("abc"))
            blocks = fields_by_block(v, l)
            e = block_lengths(v, l)[1]
            longest = max(len(block) for block in blocks)
            for start in range(0, longest, e // 2):
                fields = [own[3] for block in blocks for own in block[start:start + e // 2]]
                answer = read(v, flipped(made[2:], fields), [])
                self.assertEqual(answer, answer_of(l, 5, text("abc"), 0, len(fields), 0), (v, l, start))
            for start in range(0, longest, e):
                fields = [own[6] for block in blocks for own in block[start:start + e]]
                answer = read(v, made[2:], rows_with(v, fields))
                self.assertEqual(answer, answer_of(l, 5, text("abc"), 0, 0, len(fields)), (v, l, start))


if __name__ == "__main__":
    unittest.main()
