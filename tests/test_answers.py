"""The list of calls and the list of answers."""

import unittest

import picturefile.documents
from helper import NEW_FILE, WRITE, cells, drop, layer, other, page, read
from picturefile.documents import answers

CALLS = [page(3, 2), layer([65]), cells(0, [1, 2, 3, 1, 2, 3]), other(9, [1]), page(0, 9), drop(1), read([80, 73]),
         read([256]), read([]), drop(0), page(1, 1), WRITE, read(NEW_FILE)]
ANSWERS = [1, 0, 1, 0, 1, 6, 1, 0, 1, -1, 1, -1, 2, -16, 2,
           1, -2, 2, -11, 0, 1, 0, 1, 0, 15, 14, *NEW_FILE, 4, 1, 1, 0, 0]


def one_list(calls):
    return [number for call in calls for number in call]


class Answers(unittest.TestCase):
    def test_one_call(self):
        self.assertEqual(answers([0, 8, 8]), [1, 0])
        self.assertEqual(answers([0, 0, 0]), [1, -1])
        self.assertEqual(answers([1, 0]), [1, 0])
        self.assertEqual(answers([2, 0, 0]), [1, -1])
        self.assertEqual(answers([3, 3, 0]), [1, 0])
        self.assertEqual(answers([4, 0]), [1, -1])
        self.assertEqual(answers([5]), [15, 14] + NEW_FILE)
        self.assertEqual(answers([6, 0]), [2, -11, 0])

    def test_in_order_each_with_its_count(self):
        self.assertEqual(answers(one_list(CALLS)), ANSWERS)

    def test_40_calls(self):
        self.assertEqual(answers([5] * 40), ([15, 14] + NEW_FILE) * 40)

    def test_what_is_handed_in_stays(self):
        calls = one_list(CALLS)
        same = list(calls)
        answers(calls)
        self.assertEqual(calls, same)

    def test_nothing_is_kept(self):
        calls = one_list(CALLS[:4])
        once = answers(calls)
        self.assertEqual(answers(calls), once)
        self.assertEqual(answers([5]), [15, 14] + NEW_FILE)
        once.append(1)
        self.assertEqual(answers(calls), once[:-1])

    def test_plain_whole_numbers(self):
        given = picturefile.documents.answers(one_list(CALLS))
        self.assertIs(type(given), list)
        self.assertEqual({type(number) for number in given}, {int})


if __name__ == "__main__":
    unittest.main()
