"""The plain reading itself, on what the document tells and on what can be seen at a glance."""

import unittest

from helper import DIGITS, Unchanging, map_of_right_text, plain_number, plain_text, right_bytes


class PlainReading(unittest.TestCase):
    def test_digits_of_the_document(self):
        self.assertEqual(len(set(DIGITS)), 64)
        for number, digits in ((0, b"A"), (1, b"C"), (-1, b"D"), (16, b"gB")):
            self.assertEqual(plain_number(number), digits)

    def test_text(self):
        self.assertEqual(plain_text([(0, 1), (0, 2, 1, 2, 3), (2, 0, 0, 2, 3, 1)]), b"C,CCEG;;ADAAC")

    def test_right_texts(self):
        self.assertEqual(map_of_right_text(b""), [])
        self.assertEqual(map_of_right_text(b"C,CCEG;;ADAAC;;"), [(0, 1), (0, 2, 1, 2, 3), (2, 0, 0, 2, 3, 1)])

    def test_wrong_texts(self):
        for text, right in ((b"B", 0), (b"A,", 2), (b"A,,A", 2), (b"A;,A", 2), (b";A,A", 3), (b"A;A;gA", 4), (b",", 0)):
            self.assertIsNone(map_of_right_text(text))
            self.assertEqual(right_bytes(text), right)


class ListsThatAreNotChanged(unittest.TestCase):
    def test_it_fails_when_it_is_changed(self):
        numbers = Unchanging([1, 2])
        for change in (lambda: numbers.append(1), lambda: numbers.pop(), lambda: numbers.__setitem__(0, 5),
                       lambda: numbers.__iadd__([1]), lambda: numbers.clear(), lambda: numbers.reverse()):
            with self.assertRaises(AssertionError):
                change()
        self.assertEqual(numbers, [1, 2])
