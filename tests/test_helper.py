"""The plain reading itself, on what the document tells and on what can be seen at a glance."""

import unittest

from helper import (DIGITS, Unchanging, map_of_right_text, plain_append, plain_back, plain_forward, plain_join,
                    plain_moved, plain_number, plain_text, plain_through, right_bytes)


class PlainReading(unittest.TestCase):
    def test_digits_of_the_document(self):
        self.assertEqual(len(set(DIGITS)), 64)
        for number, digits in ((0, b"A"), (1, b"C"), (-1, b"D"), (16, b"gB")):
            self.assertEqual(plain_number(number), digits)

    def test_text(self):
        self.assertEqual(plain_text([(0, 1), (0, 2, 1, 2, 3), (2, 0, 0, 2, 3, 1)]), b"C,CCEG;;ADAAC")

    def test_right_texts(self):
        self.assertEqual(map_of_right_text(b""), [])
        self.assertEqual(map_of_right_text(b"C,CCEG;;ADAAC;;"), [(0, 1), (0, 2, 1, 2, 3), (2, 0, 0, 2, 3, 1)])

    def test_wrong_texts(self):
        for text, right in ((b"B", 0), (b"A,", 2), (b"A,,A", 2), (b"A;,A", 2), (b";A,A", 3), (b"A;A;gA", 4), (b",", 0)):
            self.assertIsNone(map_of_right_text(text))
            self.assertEqual(right_bytes(text), right)

    def test_looks(self):
        rows = [(0, 2), (0, 4, 1, 0, 7), (1, 0, 1, 0, 7, 3), (1, 5, 1, 0, 6)]
        self.assertEqual([plain_forward(rows, 0, col) for col in (1, 2, 3, 4, 9)], [None, (0, 2), (0, 2), rows[1], rows[1]])
        self.assertIsNone(plain_forward(rows, 2, 9))
        self.assertEqual([plain_back(rows, 1, 0, col) for col in (5, 6, 7, 8)], [None, rows[3], rows[1], rows[1]])
        self.assertIsNone(plain_back(rows, 0, 0, 9))
        self.assertIsNone(plain_back(rows, 1, 1, 9))

    def test_through(self):
        b = [(0, 0), (0, 4, 5, 6, 7), (0, 8, 5, 6, 7, 8)]
        for segment, through in (((1, 1, 2, 0, 3, 9), (1, 1)), ((1, 1, 2, 1, 3, 9), (1, 1)),
                                 ((1, 1, 2, 0, 4), (1, 1, 15, 6, 7)), ((1, 1, 2, 0, 4, 9), (1, 1, 15, 6, 7, 9)),
                                 ((1, 1, 2, 0, 8), (1, 1, 15, 6, 7, 108)), ((1, 1, 2, 0, 8, 9), (1, 1, 15, 6, 7, 9)),
                                 ((1, 1, 3, 0, 8, 9), (1, 1, 3, 0, 8, 9)), ((1, 1), (1, 1)), (None, None)):
            self.assertEqual(plain_through(segment, b, 2, 10, 100), through)

    def test_moved(self):
        for segment, moved in (((0, 1), (10, 21)), ((1, 1), (11, 1)), ((0, 1, 2, 3, 4), (10, 21, 32, 3, 4)),
                               ((2, 1, 2, 3, 4, 5), (12, 1, 32, 3, 4, 45)), (None, None)):
            self.assertEqual(plain_moved(segment, 10, 20, 30, 40), moved)

    def test_what_is_refused(self):
        maps = [[(0, 5, 0, 0, 0)], [(0, 0, 1, 1, 1)], [(0, col) for col in range(200)], []]
        as_it_was = [list(segments) for segments in maps]
        self.assertEqual(plain_join(maps, 0, 1, 0, 2147483647, 0), [-6])
        self.assertEqual(plain_append(maps, 0, 1, 0, 5, 2147483647, 0), [-2])
        self.assertEqual(plain_append(maps, 0, 1, 0, 6, 2147483647, 0), [-6])
        self.assertEqual(plain_append(maps, 2, 1, 1, 0, 2147483647, 0), [-4])
        self.assertEqual(maps, as_it_was)


class ListsThatAreNotChanged(unittest.TestCase):
    def test_it_fails_when_it_is_changed(self):
        numbers = Unchanging([1, 2])
        for change in (lambda: numbers.append(1), lambda: numbers.pop(), lambda: numbers.__setitem__(0, 5),
                       lambda: numbers.__iadd__([1]), lambda: numbers.clear(), lambda: numbers.reverse()):
            with self.assertRaises(AssertionError):
                change()
        self.assertEqual(numbers, [1, 2])
