"""count and get."""

import unittest

from helper import HUGE, add, ask, count, get, line_of_segments, read

ROWS = [(0, 0), (0, 4, 3, 2, 1), (7, 2, 6, 5, 4, 3)]


class Count(unittest.TestCase):
    def test_of_the_empty_map(self):
        self.assertEqual(ask(*[count(k) for k in range(4)]), [[0]] * 4)

    def test_of_a_growing_map(self):
        calls = []
        for row in ROWS:
            calls += [add(1, *row), count(1)]
        self.assertEqual(ask(*calls), [[0], [1], [0], [2], [0], [3]])

    def test_of_a_full_map(self):
        self.assertEqual(ask(read(0, line_of_segments(200)), count(0)), [[200], [200]])


class Get(unittest.TestCase):
    def test_of_the_empty_map(self):
        self.assertEqual(ask(get(0, 0), get(3, 1), get(2, HUGE)), [[0]] * 3)

    def test_first_last_and_behind(self):
        calls = [add(2, *row) for row in ROWS]
        told = ask(*calls, get(2, 0), get(2, 1), get(2, 2), get(2, 3), get(2, 4), get(2, HUGE))
        self.assertEqual(told[3:], [[1, *row] for row in ROWS] + [[0]] * 3)

    def test_of_a_full_map(self):
        self.assertEqual(ask(read(0, line_of_segments(200)), get(0, 0), get(0, 100), get(0, 199), get(0, 200)),
                         [[200], [1, 0, 0], [1, 0, 100], [1, 0, 199], [0]])

    def test_it_changes_nothing(self):
        self.assertEqual(ask(add(0, 1, 2), get(0, 0), get(0, 0), count(0)), [[0], [1, 1, 2], [1, 1, 2], [1]])
