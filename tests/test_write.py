"""Rows by their three ways, and the whole file, byte by byte."""

import unittest

from helper import NEW_FILE, WRITE, ask, cells, drop, file_of, last, layer, other, page
from picturefile.parts import byte_sum, two_bytes, written_part


def rows_of(w, h, numbers):
    """The bytes of the rows of a nameless layer, as they stand in the file."""
    written = file_of(page(w, h), layer([]), cells(0, numbers))
    length = written[10] * 256 + written[11]
    return written[13:12 + length]


class Rows(unittest.TestCase):
    def test_as_it_is(self):
        self.assertEqual(rows_of(3, 1, [5, 5, 5]), [0, 128, 5])
        self.assertEqual(rows_of(1, 1, [255]), [0, 0, 255])
        self.assertEqual(rows_of(2, 2, [1, 9, 4, 200]), [0, 1, 1, 9, 0, 1, 4, 200])

    def test_less_the_one_before(self):
        self.assertEqual(rows_of(3, 1, [1, 2, 3]), [1, 128, 1])
        self.assertEqual(rows_of(5, 1, [9, 11, 13, 15, 17]), [1, 0, 9, 129, 2])

    def test_less_the_one_above(self):
        self.assertEqual(rows_of(3, 2, [1, 5, 2, 2, 6, 3]), [0, 2, 1, 5, 2, 2, 128, 1])
        self.assertEqual(rows_of(3, 3, [1, 5, 2, 2, 6, 3, 4, 8, 5]), [0, 2, 1, 5, 2, 2, 128, 1, 2, 128, 2])

    def test_modulo_256(self):
        self.assertEqual(rows_of(3, 1, [255, 254, 253]), [1, 128, 255])
        self.assertEqual(rows_of(4, 1, [250, 253, 0, 3]), [1, 0, 250, 128, 3])
        self.assertEqual(rows_of(3, 2, [1, 9, 0, 0, 8, 255]), [0, 2, 1, 9, 0, 2, 128, 255])

    def test_of_all_equally_short_the_first(self):
        self.assertEqual(rows_of(3, 1, [1, 5, 2]), [0, 2, 1, 5, 2])
        self.assertEqual(rows_of(3, 2, [0] * 6), [0, 128, 0, 0, 128, 0])

    def test_of_the_two_last_the_first(self):
        self.assertEqual(rows_of(3, 2, [1, 2, 3, 1, 2, 3]), [1, 128, 1, 1, 128, 1])

    def test_of_the_first_and_the_last_the_first(self):
        self.assertEqual(rows_of(4, 2, [1, 1, 1, 1, 2, 2, 2, 2]), [0, 129, 1, 0, 129, 2])

    def test_alike_in_the_midst_and_at_the_end(self):
        self.assertEqual(rows_of(8, 1, [1, 9, 7, 7, 7, 7, 3, 5]), [0, 1, 1, 9, 129, 7, 1, 3, 5])
        self.assertEqual(rows_of(8, 1, [1, 9, 4, 7, 7, 7, 7, 7]), [0, 2, 1, 9, 4, 130, 7])

    def test_cells_counts_them(self):
        for numbers in ([1, 2, 3, 1, 2, 3], [1, 5, 2, 2, 6, 3], [0] * 6, [1, 5, 2, 9, 0, 9]):
            with self.subTest(numbers=numbers):
                self.assertEqual(last(page(3, 2), layer([1, 2]), cells(0, numbers)), [len(rows_of(3, 2, numbers))])


class Sums(unittest.TestCase):
    def test_the_sum(self):
        self.assertEqual(byte_sum([]), 7)
        self.assertEqual(byte_sum([0]), 218)
        self.assertEqual(byte_sum([255]), 473)
        self.assertEqual(byte_sum([0, 0, 0]), 12967)
        self.assertEqual(byte_sum([1, 0, 2, 1, 1]), 20510)

    def test_two_bytes(self):
        self.assertEqual(two_bytes(0), [0, 0])
        self.assertEqual(two_bytes(255), [0, 255])
        self.assertEqual(two_bytes(256), [1, 0])
        self.assertEqual(two_bytes(65520), [255, 240])

    def test_a_part_with_a_long_body(self):
        written = written_part(3, [9] * 300)
        self.assertEqual(written[:4], [3, 1, 44, 9])
        self.assertEqual(len(written), 305)


class Files(unittest.TestCase):
    def test_without_layers_and_others(self):
        self.assertEqual(ask(WRITE), [[14] + NEW_FILE])
        self.assertEqual(ask(page(1, 1), WRITE)[1], [14] + NEW_FILE)

    def test_with_both(self):
        self.assertEqual(
            last(page(3, 2), layer([97, 98]), cells(0, [1, 2, 3, 1, 2, 3]), other(200, [9, 8]), other(3, []), layer([]),
                 WRITE),
            [52, 80, 73,
             1, 0, 2, 3, 2, 80, 93,
             2, 0, 9, 2, 97, 98, 1, 128, 1, 1, 128, 1, 212, 210,
             2, 0, 7, 0, 0, 128, 0, 0, 128, 0, 21, 242,
             200, 0, 2, 9, 8, 58, 191,
             3, 0, 0, 61, 234,
             0, 0, 0, 50, 167],
        )

    def test_with_a_layer_dropped(self):
        self.assertEqual(
            last(page(3, 2), layer([1]), layer([]), layer([2]), drop(0), drop(1), WRITE),
            [26, 80, 73,
             1, 0, 2, 3, 2, 80, 93,
             2, 0, 7, 0, 0, 128, 0, 0, 128, 0, 21, 242,
             0, 0, 0, 50, 167],
        )

    def test_with_the_largest_page(self):
        first = [10, 20, 30, 40, 50, 60, 70, 80]
        second = [15, 25, 35, 45, 55, 65, 75, 85]
        uneven = [3, 1, 4, 1, 5, 9, 2, 6]
        numbers = first + second + [7] * 8 + uneven + [0] * 8 + uneven + uneven + [255] * 8
        self.assertEqual(
            last(page(8, 8), layer([255] * 12), cells(0, numbers), WRITE),
            [70, 80, 73,
             1, 0, 2, 8, 8, 80, 254,
             2, 0, 51, 12, 255, 255, 255, 255, 255, 255, 255, 255, 255, 255, 255, 255,
             1, 133, 10,
             2, 133, 5,
             0, 133, 7,
             0, 7, 3, 1, 4, 1, 5, 9, 2, 6,
             0, 133, 0,
             0, 7, 3, 1, 4, 1, 5, 9, 2, 6,
             2, 133, 0,
             0, 133, 255,
             110, 22,
             0, 0, 0, 50, 167],
        )

    def test_changes_nothing(self):
        given = ask(page(2, 2), layer([1]), other(4, [4]), WRITE, WRITE)
        self.assertEqual(given[3], given[4])
