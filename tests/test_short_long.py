"""The calls short and long: bytes told in short, read again, and refused."""

import random
import unittest

from helper import LARGEST, WRITE, ask, different, layer, long, other, page, short


class Asks(unittest.TestCase):
    def answers(self, answer, asked):
        """That is answered, and the document is as it was."""
        given = ask(page(2, 1), layer([1]), other(3, [4]), WRITE, asked, WRITE)
        self.assertEqual(given[4], answer)
        self.assertEqual(given[5], given[3])


class Short(Asks):
    def tells(self, numbers, told):
        self.answers(told, short(numbers))
        self.answers(numbers, long(len(numbers), told))

    def test_none(self):
        self.tells([], [])

    def test_alike(self):
        self.tells([9], [0, 9])
        self.tells([9] * 2, [1, 9, 9])
        self.tells([9] * 3, [128, 9])
        self.tells([9] * 130, [255, 9])
        self.tells([9] * 131, [255, 9, 0, 9])
        self.tells([9] * 132, [255, 9, 1, 9, 9])
        self.tells([9] * 133, [255, 9, 128, 9])

    def test_not_alike(self):
        self.tells(different(128), [127] + different(128))
        self.tells(different(129), [127] + different(128) + [0, 128])
        self.tells([1, 1, 2, 2, 1, 1], [5, 1, 1, 2, 2, 1, 1])

    def test_alike_in_the_midst_and_at_the_end(self):
        self.tells([1, 2, 7, 7, 7, 3, 4], [1, 1, 2, 128, 7, 1, 3, 4])
        self.tells([1, 2, 7, 7, 3, 4], [5, 1, 2, 7, 7, 3, 4])
        self.tells([1, 2, 7, 7, 7], [1, 1, 2, 128, 7])
        self.tells([1, 2, 7, 7], [3, 1, 2, 7, 7])
        self.tells(different(128) + [5, 5, 5], [127] + different(128) + [128, 5])
        self.tells(different(126) + [5, 5, 5], [125] + different(126) + [128, 5])

    def test_400_and_401(self):
        self.tells([0] * 400, [255, 0, 255, 0, 255, 0, 135, 0])
        self.answers([-2], short([0] * 401))
        self.answers([-2], short([0] * 450))
        self.answers([-2], short(different(401)))
        self.tells(different(400), [127] + different(400)[:128] + [127] + different(400)[128:256]
                   + [127] + different(400)[256:384] + [15] + different(400)[384:])

    def test_255_and_256(self):
        self.tells([255], [0, 255])
        for wrong in ([256], [LARGEST], [0, 0, 0, 256], [256] + [0] * 399, [0] * 399 + [256], [256] * 401):
            with self.subTest(wrong=wrong[-4:]):
                self.answers([-2], short(wrong))


class Long(Asks):
    def test_none(self):
        self.answers([], long(0, []))

    def test_none_of_some(self):
        for wrong in ([0], [0, 0], [128], [128, 5], [255]):
            with self.subTest(wrong=wrong):
                self.answers([-6], long(0, wrong))

    def test_both_kinds(self):
        self.answers([6], long(1, [0, 6]))
        self.answers([6, 7], long(2, [1, 6, 7]))
        self.answers([6, 6, 6], long(3, [128, 6]))
        self.answers([6] * 130, long(130, [255, 6]))
        self.answers(different(128), long(128, [127] + different(128)))
        self.answers([1, 2, 7, 7, 7, 3], long(6, [1, 1, 2, 128, 7, 0, 3]))
        self.answers([128, 0, 0, 0, 255], long(5, [0, 128, 128, 0, 0, 255]))

    def test_not_the_shortest(self):
        self.answers([7, 7, 7, 7, 8], long(5, [0, 7, 2, 7, 7, 7, 0, 8]))
        self.answers([7] * 6, long(6, [128, 7, 128, 7]))
        self.answers([7] * 400, long(400, [0, 7] * 400))

    def test_one_too_few_or_too_many(self):
        self.answers([-6], long(3, [1, 5, 6]))
        self.answers([-6], long(1, [1, 5, 6]))
        self.answers([-6], long(4, [128, 6]))
        self.answers([-6], long(2, [128, 6]))
        self.answers([-6], long(3, [128]))
        self.answers([-6], long(3, [128, 6, 0]))
        self.answers([-6], long(3, [128, 6, 128]))
        self.answers([-6], long(3, [128, 6, 0, 5]))
        self.answers([-6], long(2, [1, 5]))
        self.answers([-6], long(2, [1, 5, 6, 0]))
        self.answers([-6], long(1, []))
        self.answers([-6], long(400, []))

    def test_a_stretch_beyond(self):
        self.answers([-6], long(3, [0, 1, 128, 1]))
        self.answers([-6], long(3, [0, 1, 2, 1, 2, 3]))
        self.answers([-6], long(400, [255, 0] * 4))
        self.answers([-6], long(129, [255, 0]))

    def test_an_unfinished_stretch(self):
        for wrong in ([2, 5, 6], [2, 5], [2], [0, 5, 1, 6], [0, 5, 1], [0, 4, 128], [127] + [1] * 3, [255]):
            with self.subTest(wrong=wrong):
                self.answers([-6], long(3, wrong))

    def test_400_and_401(self):
        self.answers([0] * 400, long(400, [255, 0, 255, 0, 255, 0, 135, 0]))
        self.answers([-2], long(401, [255, 0, 255, 0, 255, 0, 136, 0]))
        self.answers([-2], long(LARGEST, [0, 1]))

    def test_255_and_256(self):
        self.answers([255], long(1, [0, 255]))
        for wrong in ([0, 256], [256, 0], [0, LARGEST], [0, 1, 256]):
            with self.subTest(wrong=wrong):
                self.answers([-2], long(1, wrong))

    def test_told_first(self):
        self.answers([-2], long(401, []))
        self.answers([-2], long(401, [0]))
        self.answers([-2], long(2, [0, 256]))
        self.answers([-2], long(0, [256]))
        self.answers([-2], long(401, [256]))

    def test_1000_bytes(self):
        self.answers([-6], long(400, [0] * 1000))
        self.answers([-6], long(400, [128, 1] * 500))
        self.answers([-2], long(400, [0] * 999 + [256]))


class ShortAndLong(unittest.TestCase):
    def test_the_same_numbers(self):
        chance = random.Random(4)
        for length in range(0, 401, 5):
            numbers = []
            while len(numbers) < length:
                numbers += [chance.randrange(256)] * chance.choice((1, 1, 2, 3, 4, 140))
            numbers = numbers[:length]
            told = ask(short(numbers))[0]
            self.assertEqual(ask(long(length, told)), [numbers])
            self.assertEqual(ask(long(length + 1, told)), [[-2] if length == 400 else [-6]])


if __name__ == "__main__":
    unittest.main()
