"""The list of calls and the list of answers."""

import unittest

import picturefile.documents
from helper import (
    NEW_FILE, OTHERS, SHOWS, WRITE, ask, cells, drop, file_of, layer, long, look, mend, other, page, read, short,
)
from picturefile.documents import answers

CALLS = [page(3, 2), layer([65]), cells(0, [1, 2, 3, 1, 2, 3]), other(9, [1]), page(0, 9), drop(1), read([80, 73]),
         read([256]), read([]), SHOWS, look(0), OTHERS, look(1), short([5, 5, 5, 6]), short([]), short([256]),
         long(4, [128, 5, 0, 6]), long(0, []), long(1, []), mend([]), drop(0), page(1, 1), WRITE, read(NEW_FILE),
         mend([7] + NEW_FILE + [3, 0, 0, 61, 234]), OTHERS]
ANSWERS = [1, 0, 1, 0, 1, 6, 1, 0, 1, -1, 1, -1, 2, -16, 2,
           1, -2, 2, -11, 0, 6, 3, 2, 1, 1, 1, 12, 8, 1, 65, 1, 2, 3, 1, 2, 3, 4, 1, 9, 1, 1, 1, -1,
           4, 128, 5, 0, 6, 0, 1, -2, 4, 5, 5, 5, 6, 0, 1, -6, 1, -13, 1, 0, 1, 0, 15, 14, *NEW_FILE, 4, 1, 1, 0, 0,
           4, 1, 1, 0, 1, 3, 1, 3, 0]
FILE = file_of(*CALLS[:4])
TEN = CALLS[:4] + [SHOWS, look(0), OTHERS, WRITE, short([4]), long(1, [0, 4])]
FORTY = TEN * 3 + [drop(0), read(FILE), mend(FILE), drop(0), SHOWS, WRITE, read(FILE), layer([]), WRITE, mend([])]


def one_list(calls):
    return [number for call in calls for number in call]


class Answers(unittest.TestCase):
    def test_one_call(self):
        self.assertEqual(answers([0, 8, 8]), [1, 0])
        self.assertEqual(answers([0, 0, 0]), [1, -1])
        self.assertEqual(answers([1, 0]), [1, 0])
        self.assertEqual(answers([2, 0, 0]), [1, -1])
        self.assertEqual(answers([3, 3, 0]), [1, 0])
        self.assertEqual(answers([4, 0]), [1, -1])
        self.assertEqual(answers([5]), [15, 14] + NEW_FILE)
        self.assertEqual(answers([6, 0]), [2, -11, 0])
        self.assertEqual(answers([7, 0]), [1, -13])
        self.assertEqual(answers([7, 7, 1, 0, 2, 1, 1, 80, 30]), [4, 1, 1, 0, 0])
        self.assertEqual(answers([8]), [4, 1, 1, 0, 0])
        self.assertEqual(answers([9, 0]), [1, -1])
        self.assertEqual(answers([10]), [1, 0])
        self.assertEqual(answers([11, 0]), [0])
        self.assertEqual(answers([11, 1, 7]), [2, 0, 7])
        self.assertEqual(answers([12, 0, 0]), [0])
        self.assertEqual(answers([12, 3, 2, 128, 7]), [3, 7, 7, 7])

    def test_in_order_each_with_its_count(self):
        self.assertEqual(answers(one_list(CALLS)), ANSWERS)

    def test_40_calls(self):
        self.assertEqual(answers([5] * 40), ([15, 14] + NEW_FILE) * 40)
        self.assertEqual(len(FORTY), 40)
        written = [len(FILE)] + FILE
        ten = [[0], [0], [6], [0], [3, 2, 1, 1, 1, 12], [1, 65, 1, 2, 3, 1, 2, 3], [1, 9, 1, 1], written, [0, 4], [4]]
        without = file_of(page(3, 2), other(9, [1]))
        with_two = file_of(*CALLS[:4], layer([]))
        self.assertEqual(ask(*FORTY), ten * 3 + [
            [0], [3, 2, 1, 1], [3, 2, 1, 1], [0], [3, 2, 0, 1], [len(without)] + without, [3, 2, 1, 1], [1],
            [len(with_two)] + with_two, [-13]])

    def test_the_longest_list(self):
        some_bytes = [250] * 1991 + NEW_FILE[2:9]
        calls = mend(some_bytes) * 15
        self.assertEqual(len(calls), 30000)
        self.assertEqual(answers(calls), [4, 1, 1, 0, 0] * 15)

    def test_what_is_handed_in_stays(self):
        for calls in (one_list(CALLS), one_list(FORTY)):
            same = list(calls)
            given = answers(calls)
            self.assertEqual(calls, same)
            given.clear()
            self.assertEqual(calls, same)

    def test_the_same_list_twice(self):
        for calls in (one_list(CALLS), one_list(FORTY)):
            once = answers(calls)
            self.assertEqual(answers(calls), once)

    def test_nothing_is_kept(self):
        calls = one_list(CALLS[:4])
        once = answers(calls)
        self.assertEqual(answers([8]), [4, 1, 1, 0, 0])
        self.assertEqual(answers([10]), [1, 0])
        self.assertEqual(answers([9, 0]), [1, -1])
        self.assertEqual(answers(calls), once)
        self.assertEqual(answers([5]), [15, 14] + NEW_FILE)
        once.append(1)
        self.assertEqual(answers(calls), once[:-1])

    def test_plain_whole_numbers(self):
        given = picturefile.documents.answers(one_list(CALLS))
        self.assertIs(type(given), list)
        self.assertEqual({type(number) for number in given}, {int})


if __name__ == "__main__":
    unittest.main()
