"""The document's example, number by number."""

import unittest

from relationsfound.finding import answers


class Example(unittest.TestCase):
    def test_as_it_stands(self):
        calls = []
        calls += [0, 4, 2, 4, 7, 2]
        calls += [1, 2, -1, 1]
        calls += [2, 2, 1, 0, 6, 2, 1, 5, 1, 0, 1, 5, 2, 0, 1, 0, 1, 4, 3, 0, 3, 6]
        calls += [5]
        calls += [6]
        calls += [7, 4]
        calls += [4, 5, 0, 1, 5, 0, 0]
        calls += [8, 0, 2]
        calls += [8, 2, 0]
        calls += [3, 8, 3, 1, 5, 2, 4, 5, 1, 3]
        calls += [10, 0, 0]
        calls += [10, 1, 0]
        calls += [9, 0, 1, 4]
        calls += [9, 4, 1, 0]
        calls += [11]
        expected = []
        expected += [1, 2]
        expected += [1, 13]
        expected += [1, 12]
        expected += [10, 9, 0, 1, 2, 4, 5, 8, 9, 10, 11]
        expected += [5, 4, 0, 4, 8, 9]
        expected += [7, 0, 1, 5, 3, 1, 0, 1]
        expected += [4, 13, 0, 0, -1]
        expected += [1, 1]
        expected += [1, 0]
        expected += [1, 3]
        expected += [1, 0]
        expected += [1, 1]
        expected += [2, 0, 2]
        expected += [1, 1]
        expected += [2, 1, 0]
        self.assertEqual(expected, answers(calls))
