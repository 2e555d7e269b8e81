import unittest

from fieldsquares.squares import room
from helper import DATA_BYTES, VAST


class Room(unittest.TestCase):
    def test_all_sizes_and_levels(self):
        for v, by_level in DATA_BYTES.items():
            for l, count in enumerate(by_level):
                self.assertEqual(room(v, l), [8 * count], (v, l))

    def test_no_such_size(self):
        for v in (0, 13, 14, 2 ** 64 + 1, VAST):
            for l in (0, 3, 4):
                self.assertEqual(room(v, l), [-1], (v, l))

    def test_no_such_level(self):
        for l in (4, 5, 2 ** 64, VAST):
            for v in (1, 12, 13):
                self.assertEqual(room(v, l), [-1], (v, l))
        self.assertEqual(room(VAST, VAST), [-1])

    def test_answer_is_a_list_of_whole_numbers(self):
        for answer in (room(1, 0), room(0, 0)):
            self.assertIs(type(answer), list)
            self.assertEqual([type(number) for number in answer], [int])

    def test_nothing_is_kept(self):
        first = room(7, 2)
        first.append(5)
        room(0, 9)
        self.assertEqual(room(7, 2), [704])


if __name__ == "__main__":
    unittest.main()
