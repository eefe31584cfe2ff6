"""read: what was written, and a file's faults."""

import random
import unittest

from helper import (
    LARGEST, NEW_FILE, WRITE, END, any_document, ask, cells, drop, file_of, file_with, last, layer, other, page, part,
    place_of, read, spoilt,
)

PAGE = part(1, [3, 2])
PLAIN = [0, 128, 0, 0, 128, 0]
LAYER = part(2, [1, 65] + PLAIN)
BAD_LAYER = part(2, [13] + [65] * 13 + PLAIN)
OTHER = part(9, [1, 2, 3])
BEFORE = [page(2, 2), layer([7]), cells(0, [1, 2, 3, 4]), other(77, [6, 5])]


class Reads(unittest.TestCase):
    def stands(self, some_bytes, how, again=None):
        """The file is read, and written again it is the same, or as told."""
        given = ask(*BEFORE, read(some_bytes), WRITE)
        self.assertEqual(given[-2], how)
        self.assertEqual(given[-1][1:], some_bytes if again is None else again)

    def fault(self, number, at, some_bytes):
        """The fault is told, and the document is as it was."""
        given = ask(*BEFORE, WRITE, read(some_bytes), WRITE)
        self.assertEqual(given[-2], [-10 - number, at])
        self.assertEqual(given[-1], given[-3])


class ReadAsItWas(Reads):
    def test_without_layers_and_others(self):
        self.stands(NEW_FILE, [1, 1, 0, 0])
        self.stands(file_with(part(1, [8, 1]), END), [8, 1, 0, 0])
        self.stands(file_with(part(1, [1, 8]), END), [1, 8, 0, 0])

    def test_layers_and_what_is_unknown(self):
        self.stands(file_with(PAGE, LAYER, LAYER, OTHER, part(255, []), part(3, [0]), END), [3, 2, 2, 3])

    def test_six_of_both(self):
        layers = [part(2, [1, k] + PLAIN) for k in range(6)]
        others = [part(250 + k, [k] * k) for k in range(6)]
        self.stands(file_with(PAGE, *layers, *others, END), [3, 2, 6, 6])

    def test_it_is_the_document_then(self):
        some_bytes = file_with(PAGE, LAYER, OTHER, END)
        given = ask(read(some_bytes), layer([66]), cells(0, [1, 2, 3, 1, 2, 3]), other(5, []), WRITE)
        self.assertEqual(given[:4], [[3, 2, 1, 1], [1], [6], [1]])
        self.assertEqual(given[4][1:], file_with(
            PAGE, part(2, [1, 65, 1, 128, 1, 1, 128, 1]), part(2, [1, 66] + PLAIN), OTHER, part(5, []), END))
        self.assertEqual(last(read(some_bytes), drop(0)), [0])
        self.assertEqual(last(read(some_bytes), drop(1)), [-1])

    def test_every_way(self):
        as_it_is = part(2, [0, 0, 2, 5, 1, 250, 0, 2, 6, 3, 255])
        before = part(2, [0, 1, 2, 5, 252, 249, 1, 2, 6, 253, 252])
        above = part(2, [0, 2, 2, 5, 1, 250, 2, 2, 1, 2, 5])
        # All three tell the same rows.
        again = file_with(PAGE, as_it_is, END)
        for one in (as_it_is, before, above):
            with self.subTest(one=one):
                self.stands(file_with(PAGE, one, END), [3, 2, 1, 0], again)

    def test_modulo_256(self):
        some_bytes = file_with(PAGE, part(2, [0, 1, 128, 255, 2, 128, 1]), END)
        self.stands(some_bytes, [3, 2, 1, 0])
        self.assertEqual(file_of(page(3, 2), layer([]), cells(0, [255, 254, 253, 0, 255, 254])), some_bytes)

    def test_a_short_form_need_not_be_the_shortest(self):
        again = file_with(PAGE, LAYER, END)
        for row in ([0, 2, 0, 0, 0], [0, 0, 0, 0, 0, 0, 0], [1, 1, 0, 0, 0, 0], [2, 0, 0, 1, 0, 0]):
            with self.subTest(row=row):
                self.stands(file_with(PAGE, part(2, [1, 65] + row + row), END), [3, 2, 1, 0], again)

    def test_names_of_none_and_of_12(self):
        self.stands(file_with(PAGE, part(2, [0] + PLAIN), part(2, [12] + [255] * 12 + PLAIN), END), [3, 2, 2, 0])

    def test_layers_and_others_in_any_order(self):
        self.stands(file_with(PAGE, OTHER, LAYER, part(4, []), part(2, [0] + PLAIN), END), [3, 2, 2, 2],
                    file_with(PAGE, LAYER, part(2, [0] + PLAIN), OTHER, part(4, []), END))

    def test_an_other_longer_than_the_call_takes(self):
        self.stands(file_with(PAGE, part(9, [5] * 41), part(9, [k % 256 for k in range(300)]), END), [3, 2, 0, 2])

    def test_2000_bytes(self):
        some_bytes = file_with(PAGE, part(9, [7] * 1981), END)
        self.assertEqual(len(some_bytes), 2000)
        self.stands(some_bytes, [3, 2, 0, 1])

    def test_whatever_was_written(self):
        chance = random.Random(2)
        for k in range(300):
            calls = any_document(chance)
            how = calls[0][1:] + [sum(1 for call in calls if call[0] == number) for number in (1, 3)]
            self.stands(file_of(*calls), how)


class OneByteChanged(Reads):
    def test_is_found_at_that_part(self):
        parts = [PAGE, LAYER, part(2, [0, 1, 128, 1, 2, 128, 1]), OTHER, part(255, [255]), END]
        whole = file_with(*parts)
        for number, one in enumerate(parts):
            begins = place_of(number, *parts)
            for place in range(begins + 3, begins + len(one) - 2):
                for x in range(256):
                    if x != whole[place]:
                        changed = whole[:place] + [x] + whole[place + 1:]
                        self.assertEqual(last(read(changed)), [-12, begins])

    def test_of_the_kind_or_the_sum_too(self):
        parts = [PAGE, LAYER, OTHER, END]
        whole = file_with(*parts)
        for number, one in enumerate(parts):
            begins = place_of(number, *parts)
            for place in (begins, begins + len(one) - 2, begins + len(one) - 1):
                for more in (1, 2, 128, 255):
                    changed = whole[:place] + [(whole[place] + more) % 256] + whole[place + 1:]
                    self.fault(2, begins, changed)


class Faults(Reads):
    def test_1_the_beginning(self):
        rest = NEW_FILE[2:]
        for wrong in ([], [80], [73], [80, 74], [73, 80], [0, 80, 73] + rest, [80, 72] + rest, [81, 73] + rest, rest):
            with self.subTest(wrong=wrong):
                self.fault(1, 0, wrong)

    def test_6_no_end(self):
        self.fault(6, 2, [80, 73])
        self.fault(6, 9, file_with(PAGE))
        self.fault(6, 9 + len(LAYER) + len(OTHER), file_with(PAGE, LAYER, OTHER))

    def test_2_not_whole(self):
        parts = [PAGE, LAYER, OTHER, END]
        whole = file_with(*parts)
        for number, one in enumerate(parts):
            begins = place_of(number, *parts)
            for length in range(1, len(one)):
                with self.subTest(number=number, length=length):
                    self.fault(2, begins, whole[:begins + length])
        self.fault(2, 2, [80, 73, 1, 255, 255] + [0] * 1995)

    def test_2_another_sum(self):
        self.fault(2, 2, file_with(spoilt(PAGE), LAYER, END))
        self.fault(2, 9, file_with(PAGE, spoilt(LAYER), END))
        self.fault(2, 9 + len(LAYER), file_with(PAGE, LAYER, spoilt(OTHER), END))
        self.fault(2, 9, file_with(PAGE, spoilt(END)))

    def test_2_a_sum_that_is_the_same_modulo_65521(self):
        for k in range(65536):
            one = part(3, [k // 256, k % 256, 0])
            if one[-2] == 0 and one[-1] < 15:
                beyond = one[-1] + 65521
                self.fault(2, 9, file_with(PAGE, one[:-2] + [beyond // 256, beyond % 256], END))
                self.stands(file_with(PAGE, one, END), [3, 2, 0, 1])
                return
        self.fail("no such body was found")

    def test_3_the_place_of_the_page(self):
        self.fault(3, 2, file_with(END))
        self.fault(3, 2, file_with(LAYER, PAGE, END))
        self.fault(3, 2, file_with(OTHER, PAGE, END))
        self.fault(3, 9, file_with(PAGE, PAGE, END))
        self.fault(3, 9 + len(LAYER), file_with(PAGE, LAYER, part(1, [1, 1]), END))

    def test_4_the_page(self):
        for wrong in ([], [1], [1, 1, 1], [0, 1], [1, 0], [9, 1], [1, 9], [255, 255], [0, 0], [8, 8, 0]):
            with self.subTest(wrong=wrong):
                self.fault(4, 2, file_with(part(1, wrong), END))

    def test_6_the_end(self):
        self.fault(6, 9, file_with(PAGE, part(0, [0])))
        self.fault(6, 9, file_with(PAGE, END, [0]))
        self.fault(6, 9, file_with(PAGE, END, END))
        self.fault(6, 9, file_with(PAGE, END, LAYER, END))
        self.fault(6, 9, file_with(PAGE, part(0, [1, 2]), [1]))
        self.fault(6, 9 + len(LAYER), file_with(PAGE, LAYER, END, [80, 73]))

    def test_5_the_name(self):
        self.fault(5, 9, file_with(PAGE, BAD_LAYER, END))
        for wrong in ([], [0], [12], [1, 65], [12] + [65] * 11, [255], [13] + [65] * 13 + PLAIN, [2, 65] + PLAIN):
            with self.subTest(wrong=wrong):
                self.fault(5, 9, file_with(PAGE, part(2, wrong), END))

    def test_5_the_rows(self):
        first = [0, 128, 0]
        wrong_rows = {
            "a way above 2": [3, 128, 0],
            "a way far above 2": [255, 128, 0],
            "a way alone": [0],
            "a stretch alike beyond": [0, 129, 0],
            "a stretch beyond": [0, 3, 1, 2, 3, 4],
            "a stretch beyond the body": [0, 3, 1, 2, 3],
            "a second stretch beyond": [0, 0, 1, 128, 0],
            "too few": [0, 1, 1, 2],
            "a stretch not whole": [0, 2, 1, 2],
            "alike ones without the byte": [0, 128],
            "no row": [],
            "something behind": first + [0],
            "a row more": first + first,
        }
        for told, wrong in wrong_rows.items():
            with self.subTest(told):
                self.fault(5, 9, file_with(PAGE, part(2, [1, 65] + first + wrong), END))
        for told in ("a way above 2", "a stretch alike beyond", "a stretch beyond", "a second stretch beyond"):
            with self.subTest(told, row="the first"):
                self.fault(5, 9, file_with(PAGE, part(2, [1, 65] + wrong_rows[told] + first), END))

    def test_5_a_stretch_from_row_to_row(self):
        self.fault(5, 9, file_with(PAGE, part(2, [1, 65, 0, 131, 0]), END))
        self.fault(5, 9, file_with(PAGE, part(2, [1, 65, 0, 131, 0, 0, 128, 0]), END))

    def test_5_rows_of_another_page(self):
        self.fault(5, 9, file_with(part(1, [2, 3]), LAYER, END))
        self.fault(5, 9, file_with(part(1, [3, 1]), LAYER, END))
        self.fault(5, 9, file_with(part(1, [3, 3]), LAYER, END))

    def test_7_too_many(self):
        self.fault(7, 9 + 6 * len(LAYER), file_with(PAGE, *[LAYER] * 7, END))
        self.fault(7, 9 + 6 * len(OTHER), file_with(PAGE, *[OTHER] * 7, END))
        both = [LAYER, OTHER] * 6
        self.fault(7, 9 + sum(map(len, both)), file_with(PAGE, *both, LAYER, END))
        self.fault(7, 9 + sum(map(len, both)), file_with(PAGE, *both, OTHER, END))


class SeveralFaults(Reads):
    def test_in_one_part_the_one_told_first(self):
        self.fault(2, 2, [80, 73, 9])
        self.fault(2, 2, file_with(spoilt(OTHER), END))
        self.fault(2, 2, file_with(spoilt(part(1, [9, 9])), END))
        self.fault(2, 9, file_with(PAGE, spoilt(PAGE), END))
        self.fault(2, 9, file_with(PAGE, spoilt(part(0, [1])), [5]))
        self.fault(2, 9, file_with(PAGE, spoilt(BAD_LAYER), END))
        self.fault(2, 9 + 6 * len(OTHER), file_with(PAGE, *[OTHER] * 6, spoilt(OTHER), END))
        self.fault(3, 9, file_with(PAGE, part(1, [9, 9]), END))
        self.fault(3, 2, file_with(part(0, [1]), [5]))
        self.fault(3, 2, file_with(BAD_LAYER, END))
        self.fault(5, 9 + 6 * len(LAYER), file_with(PAGE, *[LAYER] * 6, BAD_LAYER, END))

    def test_of_several_parts_the_first(self):
        self.fault(1, 0, [80, 74] + spoilt(PAGE))
        self.fault(4, 2, file_with(part(1, [0, 9]), spoilt(LAYER), END))
        self.fault(5, 9, file_with(PAGE, BAD_LAYER, spoilt(OTHER), PAGE))
        self.fault(7, 9 + 6 * len(LAYER), file_with(PAGE, *[LAYER] * 7, spoilt(LAYER)))
        self.fault(6, 9, file_with(PAGE, END, spoilt(LAYER)))
        self.fault(3, 9, file_with(PAGE, PAGE, BAD_LAYER))
        self.fault(5, 9 + len(LAYER), file_with(PAGE, LAYER, BAD_LAYER))

    def test_read_after_a_fault(self):
        whole = file_with(PAGE, LAYER, END)
        self.assertEqual(ask(read(file_with(PAGE, LAYER)), read(whole), read([]), WRITE)[1:],
                         [[3, 2, 1, 0], [-11, 0], [len(whole)] + whole])


class Refused(Reads):
    def test_a_number_above_255(self):
        for wrong in ([256], [LARGEST], [80, 73, 256], NEW_FILE + [256], [256] + NEW_FILE[1:], NEW_FILE[:-1] + [423],
                      file_with(PAGE, part(9, [1])[:3] + [257] + part(9, [1])[4:], END)):
            with self.subTest(wrong=wrong):
                given = ask(*BEFORE, WRITE, read(wrong), WRITE)
                self.assertEqual(given[-2], [-2])
                self.assertEqual(given[-1], given[-3])

    def test_255_is_none(self):
        self.fault(2, 2, [80, 73, 255])


if __name__ == "__main__":
    unittest.main()
