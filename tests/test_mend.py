"""mend: what can be saved of a file, and what is left out."""

import random
import unittest

from helper import (
    END, LARGEST, NEW_FILE, OTHERS, SHOWS, WRITE, any_document, ask, cells, drop, file_of, file_with, last, layer, look,
    mend, other, page, part, place_of, read, spoilt,
)

PAGE = part(1, [3, 2])
PLAIN = [0, 128, 0, 0, 128, 0]
LAYER = part(2, [1, 65] + PLAIN)
SLOPE = part(2, [2, 66, 67, 1, 128, 1, 1, 128, 2])
OTHER = part(9, [1, 2, 3])
EMPTY = part(255, [])
PARTS = [PAGE, LAYER, SLOPE, OTHER, EMPTY, END]
BEFORE = [page(2, 2), layer([7]), cells(0, [1, 2, 3, 4]), other(77, [6, 5])]
# No part begins in these: each tells a body that is far too long.
NOISE = [250, 251, 252, 253]


def joined(*parts):
    return [x for one in parts for x in one]


class Mends(unittest.TestCase):
    def saves(self, some_bytes, *parts):
        """Mended, the bytes give the document that the file of these parts is: page, layers and others."""
        again = file_with(*parts, END)
        given = ask(*BEFORE, mend(some_bytes), SHOWS, WRITE)
        layers = sum(1 for one in parts if one[0] == 2)
        self.assertEqual(given[-3], [parts[0][3], parts[0][4], layers, len(parts) - 1 - layers])
        self.assertEqual(given[-2][:4], given[-3])
        self.assertEqual(given[-1][1:], again)

    def refuses(self, number, some_bytes):
        """The refusal is told, and the document is as it was."""
        asked = [WRITE, SHOWS, look(0), OTHERS]
        given = ask(*BEFORE, *asked, mend(some_bytes), *asked)
        self.assertEqual(given[8], [number])
        self.assertEqual(given[9:], given[4:8])


class AsItWasWritten(Mends):
    def test_the_same_document(self):
        self.saves(file_with(*PARTS), *PARTS[:-1])
        self.saves(NEW_FILE, part(1, [1, 1]))
        self.saves(file_with(part(1, [8, 8]), END), part(1, [8, 8]))

    def test_all_that_is_shown(self):
        before = [page(3, 2), layer([]), cells(0, [1, 2, 3, 4, 5, 250]), layer([9] * 12), other(3, []),
                  other(255, [255])]
        asked = [SHOWS, look(0), look(1), OTHERS, WRITE]
        some_bytes = file_of(*before)
        self.assertEqual(ask(mend(some_bytes), *asked)[1:], ask(*before, *asked)[len(before):])

    def test_whatever_was_written(self):
        chance = random.Random(3)
        for k in range(200):
            some_bytes = file_of(*any_document(chance))
            given = ask(read(some_bytes), mend(some_bytes), WRITE)
            self.assertEqual(given[1], given[0])
            self.assertEqual(given[2][1:], some_bytes)

    def test_without_an_end(self):
        self.saves(file_with(*PARTS[:-1]), *PARTS[:-1])
        self.saves(file_with(*PARTS)[:-1], *PARTS[:-1])

    def test_written_and_read_again(self):
        mended = file_of(mend(NOISE + joined(PAGE, spoilt(LAYER), SLOPE, OTHER)))
        self.assertEqual(mended, file_with(PAGE, SLOPE, OTHER, END))
        given = ask(mend(NOISE + mended), WRITE, read(mended), WRITE)
        self.assertEqual(given[0], given[2])
        self.assertEqual(given[1], given[3])

    def test_it_is_the_document_then(self):
        given = ask(*BEFORE, mend(joined(PAGE, LAYER, OTHER)), layer([66]), other(5, []), cells(0, [1, 2, 3, 1, 2, 3]),
                    drop(1), WRITE)[4:]
        self.assertEqual(given[:-1], [[3, 2, 1, 1], [1], [1], [6], [1]])
        filled = part(2, [1, 65, 1, 128, 1, 1, 128, 1])
        self.assertEqual(given[-1][1:], file_with(PAGE, filled, OTHER, part(5, []), END))

    def test_it_is_new_each_time(self):
        self.assertEqual(ask(mend(joined(PAGE, LAYER, OTHER)), mend(joined(PAGE, LAYER, OTHER))), [[3, 2, 1, 1]] * 2)
        self.assertEqual(ask(mend(joined(PAGE, LAYER, OTHER)), mend(PAGE), SHOWS, OTHERS)[1:],
                         [[3, 2, 0, 0], [3, 2, 0, 0], [0]])


class TheFirstTwoBytes(Mends):
    def test_with_and_without(self):
        self.saves([80, 73] + joined(*PARTS), *PARTS[:-1])
        self.saves(joined(*PARTS), *PARTS[:-1])
        self.saves([73, 80] + joined(*PARTS), *PARTS[:-1])
        self.saves([80] + joined(*PARTS), *PARTS[:-1])

    def test_a_part_that_begins_within_them(self):
        # The 73 is this part's kind, and is left out as the file's second byte.
        within = part(73, [4, 5])
        self.saves([80] + within + PAGE, PAGE)
        self.saves([81] + within + PAGE, PAGE, within)
        self.saves(within + PAGE, PAGE, within)

    def test_once_only(self):
        within = part(73, [4, 5])
        self.saves([80, 73, 80] + within + PAGE, PAGE, within)
        self.saves(PAGE + [80] + within, PAGE, within)


class SomethingPutIn(Mends):
    def test_at_each_joint(self):
        for noise in ([0], [1], [2], [9], [80, 73], NOISE, [0, 0], [1, 0, 2], [0] * 7):
            for number in range(len(PARTS) + 1):
                with self.subTest(noise=noise, number=number):
                    self.saves([80, 73] + joined(*PARTS[:number]) + noise + joined(*PARTS[number:]), *PARTS[:-1])

    def test_at_all_joints(self):
        self.saves(NOISE + joined(*[one + NOISE for one in PARTS]), *PARTS[:-1])

    def test_ahead_of_the_first_two_bytes(self):
        self.saves(NOISE + file_with(*PARTS), *PARTS[:-1])

    def test_behind_the_end(self):
        self.saves(file_with(PAGE, LAYER, END) + NOISE, PAGE, LAYER)
        self.saves(file_with(PAGE, LAYER, END, SLOPE, OTHER), PAGE, LAYER, SLOPE, OTHER)
        self.saves(file_with(END, PAGE, END, END, LAYER), PAGE, LAYER)
        self.saves(file_with(PAGE, LAYER, END) + file_with(PAGE, SLOPE, END), PAGE, LAYER, SLOPE)

    def test_an_end_with_a_body(self):
        self.saves(file_with(PAGE, part(0, LAYER), SLOPE), PAGE, SLOPE)

    def test_cut_off(self):
        some_bytes = file_with(*PARTS)
        for length in range(9, len(some_bytes)):
            whole = [one for k, one in enumerate(PARTS[:-1]) if place_of(k + 1, *PARTS) <= length]
            with self.subTest(length=length):
                self.saves(some_bytes[:length], *whole)

    def test_2000_bytes(self):
        filled = [250] * (2000 - len(joined(*PARTS)))
        self.saves(filled + joined(*PARTS), *PARTS[:-1])
        self.saves(joined(*PARTS) + filled, *PARTS[:-1])
        long_one = part(9, [7] * 1988)
        self.assertEqual(len(PAGE + long_one), 2000)
        self.saves(PAGE + long_one, PAGE, long_one)


class OneByteChanged(Mends):
    def test_that_part_is_left_out(self):
        some_bytes = file_with(*PARTS)
        for number in range(1, len(PARTS) - 1):
            left = PARTS[:number] + PARTS[number + 1:-1]
            begins = place_of(number, *PARTS)
            # Another length may tell another part that is whole; it's tried apart.
            for place in [begins, *range(begins + 3, begins + len(PARTS[number]))]:
                for more in (1, 5, 128, 255):
                    changed = list(some_bytes)
                    changed[place] = (changed[place] + more) % 256
                    with self.subTest(number=number, place=place, more=more):
                        self.saves(changed, *left)

    def test_of_the_length(self):
        for changed in ([2, 0, 7], [2, 0, 9], [2, 1, 8], [2, 255, 8], [2, 0, 0]):
            with self.subTest(changed=changed):
                self.saves(file_with(PAGE, changed + LAYER[3:], SLOPE, OTHER, END), PAGE, SLOPE, OTHER)

    def test_of_the_end(self):
        self.saves(file_with(*PARTS[:-1], spoilt(END)), *PARTS[:-1])

    def test_of_the_page(self):
        self.refuses(-13, file_with(spoilt(PAGE), LAYER, SLOPE, OTHER, EMPTY, END))


class PartsWithinParts(Mends):
    def test_within_a_broken_one(self):
        self.saves(file_with(PAGE, spoilt(part(9, [4] + LAYER + [5])), OTHER, END), PAGE, LAYER, OTHER)
        self.saves(file_with(PAGE, spoilt(part(9, SLOPE + LAYER)), END), PAGE, SLOPE, LAYER)
        self.saves(spoilt(part(7, PAGE)) + LAYER, PAGE, LAYER)

    def test_within_one_that_tells_too_many(self):
        self.saves(file_with(PAGE, [9, 1, 0], LAYER, OTHER, END), PAGE, LAYER, OTHER)
        self.saves(file_with(PAGE, [9, 0, 200], LAYER, OTHER), PAGE, LAYER, OTHER)

    def test_beginning_in_another_ones_sum(self):
        # Where the cut part's last byte should stand, the kind of one that is whole stands.
        cut = OTHER[:-1]
        self.assertNotEqual(cut + LAYER[:1], OTHER)
        self.saves(PAGE + cut + LAYER + EMPTY, PAGE, LAYER, EMPTY)

    def test_within_a_whole_one(self):
        outer = part(9, LAYER)
        self.saves(file_with(PAGE, outer, END), PAGE, outer)
        self.refuses(-13, part(9, PAGE))
        self.saves(part(9, PAGE) + part(1, [1, 1]), part(1, [1, 1]), part(9, PAGE))

    def test_two_that_share_bytes(self):
        # The first one's body ends with the beginning of another; together with what follows that would be whole.
        tail = part(20, [1, 2, 3])
        first = part(10, tail[:4])
        shared = first + tail[4:]
        self.saves(PAGE + shared, PAGE, first)


class ThePage(Mends):
    def test_behind_the_layers(self):
        self.saves(joined(LAYER, OTHER, SLOPE, PAGE), PAGE, LAYER, SLOPE, OTHER)
        self.saves(file_with(LAYER, SLOPE, END, PAGE), PAGE, LAYER, SLOPE)

    def test_every_size(self):
        for w in range(1, 9):
            for h in range(1, 9):
                self.saves(part(1, [w, h]), part(1, [w, h]))

    def test_of_two_the_first(self):
        self.saves(joined(PAGE, part(1, [1, 1]), LAYER), PAGE, LAYER)
        self.saves(joined(part(1, [1, 1]), PAGE, LAYER), part(1, [1, 1]))
        self.saves(joined(LAYER, part(1, [2, 3]), PAGE), part(1, [2, 3]))
        self.saves(joined(spoilt(part(1, [1, 1])), PAGE, LAYER), PAGE, LAYER)

    def test_passed_over(self):
        for wrong in ([0, 2], [3, 0], [9, 2], [3, 9], [255, 255], [0, 0], [], [3], [3, 2, 1], [3, 2, 3, 2]):
            with self.subTest(wrong=wrong):
                self.saves(joined(part(1, wrong), PAGE, LAYER), PAGE, LAYER)
                self.saves(joined(PAGE, part(1, wrong), LAYER), PAGE, LAYER)
                self.refuses(-13, file_with(part(1, wrong), LAYER, END))


class LayersAndOthers(Mends):
    def test_layers_that_are_none(self):
        wrong_bodies = ([], [0], [13] + [65] * 13 + PLAIN, [2, 65] + PLAIN, [1, 65, 0, 128, 0], [1, 65] + PLAIN + [0],
                        [1, 65, 3, 128, 0, 0, 128, 0], [1, 65, 0, 129, 0, 0, 128, 0], [1, 65, 0, 131, 0],
                        [1, 65, 0, 1, 0, 0, 0, 128, 0], [1, 65] + PLAIN + PLAIN)
        for wrong in wrong_bodies:
            with self.subTest(wrong=wrong):
                self.saves(file_with(PAGE, part(2, wrong), LAYER, OTHER, END), PAGE, LAYER, OTHER)

    def test_layers_of_another_page(self):
        of_another = part(2, [0, 0, 1, 0, 0])
        self.saves(joined(PAGE, of_another, part(1, [2, 1]), LAYER), PAGE, LAYER)
        self.saves(joined(part(1, [2, 1]), of_another, PAGE, LAYER), part(1, [2, 1]), of_another)

    def test_not_the_shortest(self):
        self.saves(joined(PAGE, part(2, [1, 65, 0, 2, 0, 0, 0, 1, 0, 0, 1, 0, 0])), PAGE, LAYER)

    def test_names_of_none_and_of_12(self):
        self.saves(joined(PAGE, part(2, [0] + PLAIN), part(2, [12] + [255] * 12 + PLAIN)),
                   PAGE, part(2, [0] + PLAIN), part(2, [12] + [255] * 12 + PLAIN))

    def test_the_seventh(self):
        layers = [part(2, [1, k] + PLAIN) for k in range(8)]
        others = [part(3 + k, [k] * k) for k in range(8)]
        self.saves(file_with(PAGE, *layers[:6], *others[:6], END), PAGE, *layers[:6], *others[:6])
        self.saves(file_with(PAGE, *layers[:7], END), PAGE, *layers[:6])
        self.saves(file_with(PAGE, *others[:7], END), PAGE, *others[:6])
        self.saves(file_with(PAGE, *layers, *others, END), PAGE, *layers[:6], *others[:6])
        self.saves(joined(*others, *layers, PAGE), PAGE, *layers[:6], *others[:6])

    def test_what_is_left_out_does_not_count(self):
        layers = [part(2, [1, k] + PLAIN) for k in range(7)]
        wrong = part(2, [1, 65] + PLAIN + [0])
        mixed = joined(*[wrong + spoilt(one) + one for one in layers])
        self.saves(PAGE + mixed, PAGE, *layers[:6])

    def test_any_order_and_all_kinds(self):
        self.saves(file_with(OTHER, LAYER, PAGE, part(3, []), SLOPE, part(255, [0]), END),
                   PAGE, LAYER, SLOPE, OTHER, part(3, []), part(255, [0]))

    def test_an_other_longer_than_the_call_takes(self):
        self.saves(joined(PAGE, part(9, [5] * 41), part(9, [6] * 300)), PAGE, part(9, [5] * 41), part(9, [6] * 300))


class Refused(Mends):
    def test_no_page(self):
        for wrong in ([], [80], [80, 73], [0], [255] * 2000, END, file_with(END), LAYER, file_with(LAYER, OTHER, END),
                      PAGE[:-1], PAGE[1:], [1, 0, 2, 3, 2]):
            with self.subTest(wrong=wrong[:30]):
                self.refuses(-13, wrong)

    def test_a_number_above_255(self):
        for wrong in ([256], [LARGEST], [80, 73, 256], NEW_FILE + [256], [256] + NEW_FILE, NEW_FILE[:-1] + [423],
                      LAYER + [256], file_with(PAGE, part(9, [1])[:3] + [257] + part(9, [1])[4:], END)):
            with self.subTest(wrong=wrong):
                self.refuses(-2, wrong)

    def test_255_is_none(self):
        self.saves([255] + PAGE + [255], PAGE)

    def test_mended_after_a_refusal(self):
        self.assertEqual(ask(mend([]), mend([256]), mend(PAGE + LAYER), mend([]), SHOWS),
                         [[-13], [-2], [3, 2, 1, 0], [-13], [3, 2, 1, 0, 1, 0]])

    def test_at_the_beginning(self):
        self.assertEqual(last(mend([]), WRITE), [14] + NEW_FILE)


if __name__ == "__main__":
    unittest.main()
