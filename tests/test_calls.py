"""page, layer, cells, other and drop: their answers and refusals."""

import unittest

from helper import LARGEST, NEW_FILE, WRITE, ask, cells, drop, file_of, file_with, last, layer, other, page, part, END

SIX_LAYERS = [layer([k]) for k in range(6)]
SIX_OTHERS = [other(3 + k, [k]) for k in range(6)]


class Refusals(unittest.TestCase):
    def refuses(self, number, refused, *before):
        """The call is refused by this number, and the file is the same as without it."""
        given = ask(*before, WRITE, refused, WRITE)
        self.assertEqual(given[-2], [number])
        self.assertEqual(given[-1], given[-3])


class Page(Refusals):
    def test_every_size(self):
        for w in range(1, 9):
            for h in range(1, 9):
                with self.subTest(w=w, h=h):
                    self.assertEqual(ask(page(w, h)), [[0]])
                    self.assertEqual(file_of(page(w, h)), file_with(part(1, [w, h]), END))

    def test_begins_anew(self):
        before = [page(2, 2), layer([1]), cells(0, [1, 2, 3, 4]), other(7, [1, 2])]
        self.assertEqual(file_of(*before, page(1, 1)), NEW_FILE)
        self.assertEqual(file_of(*before, page(2, 2)), file_with(part(1, [2, 2]), END))
        self.assertEqual(last(*before, page(2, 2), layer([])), [0])
        self.assertEqual(last(*before, page(2, 2), other(3, [])), [0])

    def test_refused(self):
        before = [page(2, 3), layer([1]), other(7, [1, 2])]
        for wrong in (0, 9, 256, 257, LARGEST):
            with self.subTest(wrong=wrong):
                self.refuses(-1, page(wrong, 1), *before)
                self.refuses(-1, page(8, wrong), *before)
                self.refuses(-1, page(wrong, wrong), *before)


class LayerCall(Refusals):
    def test_numbers_from_0(self):
        self.assertEqual(ask(*SIX_LAYERS), [[0], [1], [2], [3], [4], [5]])

    def test_it_is_the_last_and_all_0(self):
        self.assertEqual(
            file_of(page(3, 2), layer([65]), layer([66, 67])),
            file_with(
                part(1, [3, 2]),
                part(2, [1, 65, 0, 128, 0, 0, 128, 0]),
                part(2, [2, 66, 67, 0, 128, 0, 0, 128, 0]),
                END,
            ),
        )

    def test_name_of_none_and_of_12(self):
        self.assertEqual(last(layer([])), [0])
        self.assertEqual(last(layer([255] * 12)), [0])
        name = list(range(244, 256))
        self.assertEqual(
            file_of(layer([]), layer(name)),
            file_with(part(1, [1, 1]), part(2, [0, 0, 0, 0]), part(2, [12] + name + [0, 0, 0]), END),
        )

    def test_refused(self):
        for wrong in ([0] * 13, [0] * 20, [256], [LARGEST], [0] * 11 + [256], [256] + [0] * 11, [256] * 13):
            with self.subTest(wrong=wrong):
                self.refuses(-2, layer(wrong), page(2, 2), layer([1]))

    def test_the_seventh(self):
        self.refuses(-5, layer([]), *SIX_LAYERS)
        self.refuses(-5, layer([255] * 12), *SIX_LAYERS)

    def test_told_first(self):
        self.refuses(-2, layer([0] * 13), *SIX_LAYERS)
        self.refuses(-2, layer([256]), *SIX_LAYERS)

    def test_others_do_not_count(self):
        self.assertEqual(last(*SIX_OTHERS, *SIX_LAYERS), [5])


class Cells(Refusals):
    def test_how_many_bytes_the_rows_have(self):
        self.assertEqual(last(layer([]), cells(0, [255])), [3])
        self.assertEqual(last(page(3, 1), layer([]), cells(0, [7, 7, 7])), [3])
        self.assertEqual(last(page(3, 1), layer([]), cells(0, [7, 1, 7])), [5])
        self.assertEqual(last(page(3, 2), layer([9] * 12), cells(0, [1, 2, 3, 1, 2, 4])), [8])
        self.assertEqual(last(page(8, 8), layer([]), cells(0, [0] * 64)), [24])

    def test_of_that_layer_alone(self):
        self.assertEqual(
            file_of(page(2, 1), layer([1]), layer([2]), layer([3]), cells(1, [4, 5])),
            file_with(
                part(1, [2, 1]),
                part(2, [1, 1, 0, 1, 0, 0]),
                part(2, [1, 2, 0, 1, 4, 5]),
                part(2, [1, 3, 0, 1, 0, 0]),
                END,
            ),
        )

    def test_again(self):
        once = file_of(page(2, 1), layer([1]), cells(0, [4, 5]))
        self.assertEqual(file_of(page(2, 1), layer([1]), cells(0, [9, 9]), cells(0, [4, 5])), once)

    def test_no_such_layer(self):
        self.refuses(-1, cells(0, [0]))
        for wrong in (2, 3, 6, LARGEST):
            with self.subTest(wrong=wrong):
                self.refuses(-1, cells(wrong, [0, 0]), page(2, 1), layer([1]), layer([2]))

    def test_numbers_refused(self):
        before = [page(2, 3), layer([1]), cells(0, [1, 2, 3, 4, 5, 6])]
        for wrong in ([], [0] * 5, [0] * 7, [0] * 80, [0] * 5 + [256], [256] + [0] * 5, [LARGEST] * 6):
            with self.subTest(wrong=wrong):
                self.refuses(-2, cells(0, wrong), *before)
        self.refuses(-2, cells(0, [0] * 63), page(8, 8), layer([]))
        self.refuses(-2, cells(0, [0] * 65), page(8, 8), layer([]))

    def test_told_first(self):
        self.refuses(-1, cells(1, [256]), page(2, 1), layer([1]))
        self.refuses(-1, cells(LARGEST, []), page(2, 1), layer([1]))


class Other(Refusals):
    def test_how_many_there_were(self):
        self.assertEqual(ask(*SIX_OTHERS), [[0], [1], [2], [3], [4], [5]])

    def test_it_is_the_last(self):
        self.assertEqual(
            file_of(other(255, [1, 2]), other(3, []), other(255, [255])),
            file_with(part(1, [1, 1]), part(255, [1, 2]), part(3, []), part(255, [255]), END),
        )

    def test_40_bytes(self):
        some = list(range(216, 256))
        self.assertEqual(file_of(other(4, some)), file_with(part(1, [1, 1]), part(4, some), END))

    def test_kinds(self):
        self.assertEqual(last(other(3, [])), [0])
        self.assertEqual(last(other(255, [])), [0])
        for wrong in (0, 1, 2, 256, 259, LARGEST):
            with self.subTest(wrong=wrong):
                self.refuses(-2, other(wrong, [1]), other(9, [9]))

    def test_bytes_refused(self):
        for wrong in ([0] * 41, [0] * 60, [256], [LARGEST], [0] * 39 + [256], [256] + [0] * 39):
            with self.subTest(wrong=wrong):
                self.refuses(-2, other(3, wrong), other(9, [9]))

    def test_the_seventh(self):
        self.refuses(-5, other(3, []), *SIX_OTHERS)
        self.refuses(-5, other(255, [255] * 40), *SIX_OTHERS)

    def test_told_first(self):
        for wrong in (other(2, []), other(256, []), other(3, [0] * 41), other(3, [256])):
            with self.subTest(wrong=wrong):
                self.refuses(-2, wrong, *SIX_OTHERS)

    def test_layers_do_not_count(self):
        self.assertEqual(last(*SIX_LAYERS, *SIX_OTHERS), [5])


class Drop(Refusals):
    def test_how_many_are_left(self):
        self.assertEqual(ask(*SIX_LAYERS, drop(5), drop(0), drop(1), drop(2), drop(0), drop(0))[6:],
                         [[5], [4], [3], [2], [1], [0]])

    def test_those_behind_move_up(self):
        three = [page(2, 1), layer([1]), layer([2]), layer([3])]
        bodies = [[1, k, 0, 1, k, k + 3] for k in (1, 2, 3)]
        filled = three + [cells(k - 1, [k, k + 3]) for k in (1, 2, 3)]
        for dropped in range(3):
            with self.subTest(dropped=dropped):
                left = [part(2, body) for k, body in enumerate(bodies) if k != dropped]
                self.assertEqual(file_of(*filled, drop(dropped)), file_with(part(1, [2, 1]), *left, END))
        self.assertEqual(
            file_of(*three, drop(0), cells(1, [8, 9])),
            file_with(part(1, [2, 1]), part(2, [1, 2, 0, 1, 0, 0]), part(2, [1, 3, 0, 1, 8, 9]), END),
        )

    def test_makes_room(self):
        self.assertEqual(ask(*SIX_LAYERS, layer([]), drop(3), layer([]), layer([]))[6:], [[-5], [5], [5], [-5]])

    def test_refused(self):
        self.refuses(-1, drop(0))
        for wrong in (2, 3, LARGEST):
            with self.subTest(wrong=wrong):
                self.refuses(-1, drop(wrong), layer([1]), layer([2]), other(3, []), other(4, []), other(5, []))
        self.refuses(-1, drop(6), *SIX_LAYERS)


if __name__ == "__main__":
    unittest.main()
