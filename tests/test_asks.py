"""shows, look and others: the document as it stands, whatever came before."""

import unittest

from helper import (
    END, LARGEST, OTHERS, SHOWS, WRITE, ask, cells, drop, file_with, last, layer, long, look, mend, other, page, part,
    read, short,
)

NAME = list(range(244, 256))
PLAIN = [0, 128, 0, 0, 128, 0]
FULL = [page(3, 2), layer([]), layer(NAME), cells(1, [1, 2, 3, 4, 5, 250]), layer([65]), cells(2, [0, 0, 0, 0, 0, 7]),
        other(200, [9, 8]), other(3, []), other(255, [255] * 40)]
FULL_SHOWS = [3, 2, 3, 3, 0, 0, 12, 265, 1, 7]
FULL_OTHERS = [3, 200, 2, 9, 8, 3, 0, 255, 40] + [255] * 40
FILE = file_with(part(1, [3, 2]), part(2, [1, 65, 1, 128, 1, 0, 128, 4]), part(9, [1, 2, 3]), part(4, []), END)
FILE_SHOWS = [3, 2, 1, 2, 1, 18]
FILE_OTHERS = [2, 9, 3, 1, 2, 3, 4, 0]
REFUSED = [page(0, 1), layer([0] * 13), layer([256]), cells(3, [0] * 6), cells(0, [0] * 5), cells(1, [256] * 6),
           other(2, []), other(3, [0] * 41), drop(3), read([]), read([256]), read(FILE[:-1]), mend([]), mend([256]),
           look(3), short([256]), long(401, []), long(1, [])]


class Shows(unittest.TestCase):
    def test_at_the_beginning(self):
        self.assertEqual(ask(SHOWS), [[1, 1, 0, 0]])

    def test_layers_and_others(self):
        self.assertEqual(last(*FULL, SHOWS), FULL_SHOWS)
        self.assertEqual(last(page(8, 1), layer([1]), SHOWS), [8, 1, 1, 0, 1, 0])
        self.assertEqual(last(page(1, 8), other(3, [1]), SHOWS), [1, 8, 0, 1])

    def test_six_of_both(self):
        calls = [page(2, 1)]
        for k in range(6):
            calls += [layer([k] * 2 * k), cells(k, [k, 100]), other(3 + k, [k])]
        self.assertEqual(last(*calls, SHOWS), [2, 1, 6, 6, 0, 100, 2, 101, 4, 102, 6, 103, 8, 104, 10, 105])

    def test_the_largest_sum(self):
        self.assertEqual(last(page(8, 8), layer([]), cells(0, [255] * 64), SHOWS), [8, 8, 1, 0, 0, 16320])

    def test_the_sum_is_of_all_numbers_in_any_order(self):
        for numbers in ([1, 2, 3, 4], [4, 3, 2, 1], [0, 0, 0, 10], [10, 0, 0, 0]):
            with self.subTest(numbers=numbers):
                self.assertEqual(last(page(2, 2), layer([9]), cells(0, numbers), SHOWS), [2, 2, 1, 0, 1, 10])

    def test_after_drop(self):
        self.assertEqual(last(*FULL, drop(1), SHOWS), [3, 2, 2, 3, 0, 0, 1, 7])
        self.assertEqual(last(*FULL, drop(0), drop(0), drop(0), SHOWS), [3, 2, 0, 3])

    def test_after_page(self):
        self.assertEqual(last(*FULL, page(3, 2), SHOWS), [3, 2, 0, 0])
        self.assertEqual(last(*FULL, page(8, 7), SHOWS), [8, 7, 0, 0])

    def test_after_read_and_mend(self):
        self.assertEqual(last(*FULL, read(FILE), SHOWS), FILE_SHOWS)
        self.assertEqual(last(*FULL, mend(FILE[2:]), SHOWS), FILE_SHOWS)

    def test_after_refusals(self):
        for refused in REFUSED:
            with self.subTest(refused=refused):
                self.assertEqual(last(*FULL, refused, SHOWS), FULL_SHOWS)
        self.assertEqual(last(*FULL, *REFUSED, SHOWS), FULL_SHOWS)

    def test_changes_nothing(self):
        given = ask(*FULL, WRITE, SHOWS, SHOWS, WRITE)
        self.assertEqual(given[-1], given[-4])
        self.assertEqual(given[-2], given[-3])


class Others(unittest.TestCase):
    def test_at_the_beginning(self):
        self.assertEqual(ask(OTHERS), [[0]])

    def test_each_with_its_count(self):
        self.assertEqual(last(*FULL, OTHERS), FULL_OTHERS)
        self.assertEqual(last(other(3, []), OTHERS), [1, 3, 0])
        self.assertEqual(last(other(255, [0]), OTHERS), [1, 255, 1, 0])

    def test_six_in_order(self):
        calls = [other(9 - k, [k] * k) for k in range(6)]
        told = [6, 9, 0, 8, 1, 1, 7, 2, 2, 2, 6, 3, 3, 3, 3, 5, 4, 4, 4, 4, 4, 4, 5, 5, 5, 5, 5, 5]
        self.assertEqual(last(*calls, OTHERS), told)
        self.assertEqual(last(*calls, other(3, [1]), OTHERS), told)

    def test_after_drop_they_stay(self):
        self.assertEqual(last(*FULL, drop(1), OTHERS), FULL_OTHERS)

    def test_after_page(self):
        self.assertEqual(last(*FULL, page(3, 2), OTHERS), [0])

    def test_after_read_and_mend(self):
        self.assertEqual(last(*FULL, read(FILE), OTHERS), FILE_OTHERS)
        self.assertEqual(last(*FULL, mend(FILE[2:]), OTHERS), FILE_OTHERS)
        self.assertEqual(last(read(FILE), other(255, [6]), OTHERS), [3] + FILE_OTHERS[1:] + [255, 1, 6])
        self.assertEqual(last(mend(FILE), other(255, [6]), OTHERS), [3] + FILE_OTHERS[1:] + [255, 1, 6])

    def test_after_refusals(self):
        self.assertEqual(last(*FULL, *REFUSED, OTHERS), FULL_OTHERS)

    def test_a_long_one_that_was_read(self):
        some = [k % 256 for k in range(300)]
        self.assertEqual(last(read(file_with(part(1, [1, 1]), part(9, some), END)), OTHERS), [1, 9, 300] + some)

    def test_changes_nothing(self):
        given = ask(*FULL, WRITE, OTHERS, OTHERS, WRITE)
        self.assertEqual(given[-1], given[-4])
        self.assertEqual(given[-2], given[-3])


class Look(unittest.TestCase):
    def test_a_layer(self):
        self.assertEqual(ask(*FULL, look(0), look(1), look(2))[len(FULL):], [
            [0, 0, 0, 0, 0, 0, 0],
            [12] + NAME + [1, 2, 3, 4, 5, 250],
            [1, 65, 0, 0, 0, 0, 0, 7],
        ])

    def test_on_the_smallest_and_the_largest_page(self):
        self.assertEqual(last(layer([]), look(0)), [0, 0])
        numbers = [k * 4 + 3 for k in range(64)]
        self.assertEqual(last(page(8, 8), layer([1, 2]), cells(0, numbers), look(0)), [2, 1, 2] + numbers)

    def test_behind_a_drop(self):
        self.assertEqual(last(*FULL, drop(0), look(0)), [12] + NAME + [1, 2, 3, 4, 5, 250])
        self.assertEqual(last(*FULL, drop(1), look(1)), [1, 65, 0, 0, 0, 0, 0, 7])
        self.assertEqual(last(*FULL, drop(2), look(2)), [-1])

    def test_after_read_and_mend(self):
        self.assertEqual(last(*FULL, read(FILE), look(0)), [1, 65, 1, 2, 3, 4, 4, 4])
        self.assertEqual(last(*FULL, mend(FILE[2:]), look(0)), [1, 65, 1, 2, 3, 4, 4, 4])

    def test_each_way_of_a_row(self):
        body = [0, 2, 2, 250, 1, 9, 2, 2, 10, 255, 0, 1, 2, 250, 10, 0]
        read_one = read(file_with(part(1, [3, 3]), part(2, body), END))
        self.assertEqual(last(read_one, look(0)), [0, 250, 1, 9, 4, 0, 9, 250, 4, 4])

    def test_after_cells_again_and_refused(self):
        before = [page(2, 1), layer([7]), cells(0, [1, 2])]
        self.assertEqual(last(*before, cells(0, [3, 4]), look(0)), [1, 7, 3, 4])
        self.assertEqual(last(*before, cells(0, [3, 256]), look(0)), [1, 7, 1, 2])

    def test_layers_share_nothing(self):
        given = ask(page(2, 1), layer([1]), layer([1]), cells(0, [8, 9]), look(0), look(1))
        self.assertEqual(given[-2:], [[1, 1, 8, 9], [1, 1, 0, 0]])

    def test_no_such_layer(self):
        self.assertEqual(ask(look(0), look(LARGEST)), [[-1], [-1]])
        for wrong in (3, 4, 6, 256, LARGEST):
            with self.subTest(wrong=wrong):
                given = ask(*FULL, WRITE, look(wrong), WRITE)
                self.assertEqual(given[-2], [-1])
                self.assertEqual(given[-1], given[-3])
        six = [layer([k]) for k in range(6)]
        self.assertEqual(ask(*six, look(5), look(6))[6:], [[1, 5, 0], [-1]])

    def test_changes_nothing(self):
        given = ask(*FULL, WRITE, look(1), look(1), WRITE)
        self.assertEqual(given[-1], given[-4])
        self.assertEqual(given[-2], given[-3])


if __name__ == "__main__":
    unittest.main()
