"""In short, and back."""

import random
import unittest

from helper import different
from picturefile.shorts import in_short, read_short


class InShort(unittest.TestCase):
    def tells(self, numbers, told):
        self.assertEqual(in_short(numbers), told)
        self.assertEqual(read_short(told, 0, len(numbers)), (numbers, len(told)))

    def test_of_none(self):
        self.tells([], [])

    def test_alike(self):
        self.tells([9], [0, 9])
        self.tells([9] * 2, [1, 9, 9])
        self.tells([9] * 3, [128, 9])
        self.tells([0] * 4, [129, 0])
        self.tells([255] * 129, [254, 255])
        self.tells([9] * 130, [255, 9])
        self.tells([9] * 131, [255, 9, 0, 9])
        self.tells([9] * 132, [255, 9, 1, 9, 9])
        self.tells([9] * 133, [255, 9, 128, 9])
        self.tells([9] * 260, [255, 9, 255, 9])

    def test_not_alike(self):
        self.tells(different(127), [126] + different(127))
        self.tells(different(128), [127] + different(128))
        self.tells(different(129), [127] + different(128) + [0, 128])
        self.tells([1, 2] * 128, ([127] + [1, 2] * 64) * 2)

    def test_pairs_stand_as_they_are(self):
        self.tells([1, 1, 2, 2, 1, 1], [5, 1, 1, 2, 2, 1, 1])

    def test_alike_in_the_midst(self):
        self.tells([1, 2, 7, 7, 7, 3, 4], [1, 1, 2, 128, 7, 1, 3, 4])
        self.tells([1, 7, 7, 3], [3, 1, 7, 7, 3])
        self.tells([5, 5, 7, 7, 7, 7, 5, 5], [1, 5, 5, 129, 7, 1, 5, 5])
        self.tells([5, 5, 5, 7, 7, 7], [128, 5, 128, 7])

    def test_alike_at_the_beginning_and_end(self):
        self.tells([7, 7, 7, 1, 2], [128, 7, 1, 1, 2])
        self.tells([1, 2, 7, 7], [3, 1, 2, 7, 7])
        self.tells([1, 2, 7, 7, 7], [1, 1, 2, 128, 7])
        self.tells([1, 2] + [7] * 131, [1, 1, 2, 255, 7, 0, 7])

    def test_one_left_and_alike_ones(self):
        self.tells([7] * 131 + [8, 8, 8], [255, 7, 0, 7, 128, 8])

    def test_alike_about_the_128th(self):
        for before in (126, 127, 128):
            with self.subTest(before=before):
                self.tells(different(before) + [250] * 3, [before - 1] + different(before) + [128, 250])
        self.tells(different(129) + [250] * 3, [127] + different(128) + [0, 128, 128, 250])

    def test_and_back_it_is_the_same(self):
        chance = random.Random(1)
        for length in range(0, 401, 7):
            values = chance.choice((2, 3, 256))
            numbers = [chance.randrange(values) for k in range(length)]
            told = in_short(numbers)
            self.assertEqual(read_short(told, 0, length), (numbers, len(told)))


class Read(unittest.TestCase):
    def test_need_not_be_the_shortest(self):
        self.assertEqual(read_short([0, 7, 0, 7, 1, 7, 8], 0, 4), ([7, 7, 7, 8], 7))
        self.assertEqual(read_short([128, 7, 128, 7], 0, 6), ([7] * 6, 4))

    def test_goes_no_further_than_wanted(self):
        self.assertEqual(read_short([1, 5, 6, 9, 9], 0, 2), ([5, 6], 3))
        self.assertEqual(read_short([99, 128, 6, 9], 1, 3), ([6, 6, 6], 3))

    def test_a_stretch_beyond(self):
        self.assertIsNone(read_short([1, 5, 6], 0, 1))
        self.assertIsNone(read_short([2, 5, 6], 0, 2))
        self.assertIsNone(read_short([128, 5], 0, 2))
        self.assertIsNone(read_short([0, 5, 128, 5], 0, 3))

    def test_too_few(self):
        for told in ([], [0], [128], [1, 5], [0, 5], [0, 5, 0], [127] + [1] * 127):
            with self.subTest(told=told):
                self.assertIsNone(read_short(told, 0, 2 if len(told) < 9 else 128))


if __name__ == "__main__":
    unittest.main()
