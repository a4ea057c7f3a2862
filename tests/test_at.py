"""at: a look forward."""

import unittest

from helper import HUGE, LAST_LINE, MOST, add, ask, at, count, holding, line_of_segments, read, write

ROWS = [(1, 3, 9, 9, 9, 9), (1, 5), (1, 8, 0, 2, 4), (4, 0, 1, 1, 1), (4, 7, 1, 1, 1, 2)]


class At(unittest.TestCase):
    def check(self, rows, line, col, found):
        """found: the segment's numbers, or None."""
        self.assertEqual(ask(holding(0, rows), at(0, line, col))[1], [0] if found is None else [1, *found], (line, col))

    def test_the_empty_map(self):
        for line in (0, 1, LAST_LINE, HUGE):
            for col in (0, 1, MOST, HUGE):
                self.assertEqual(ask(at(0, line, col), at(3, line, col)), [[0], [0]])

    def test_before_the_first_of_the_line(self):
        for col in (0, 1, 2):
            self.check(ROWS, 1, col, None)

    def test_on_one(self):
        for row in ROWS:
            self.check(ROWS, row[0], row[1], row)

    def test_between_two(self):
        self.check(ROWS, 1, 4, ROWS[0])
        self.check(ROWS, 1, 6, ROWS[1])
        self.check(ROWS, 1, 7, ROWS[1])
        self.check(ROWS, 4, 1, ROWS[3])
        self.check(ROWS, 4, 6, ROWS[3])

    def test_behind_the_last_of_the_line(self):
        for col in (9, 10, 1000, MOST, MOST + 1, HUGE):
            self.check(ROWS, 1, col, ROWS[2])
            self.check(ROWS, 4, col, ROWS[4])

    def test_a_line_without_segments(self):
        for line in (0, 2, 3, 5, 6, LAST_LINE, LAST_LINE + 1, MOST, HUGE):
            for col in (0, 3, 4, 8, MOST, HUGE):
                self.check(ROWS, line, col, None)

    def test_one_without_an_origin_is_found_too(self):
        self.check([(0, 0, 1, 2, 3), (0, 2)], 0, 2, (0, 2))
        self.check([(0, 0, 1, 2, 3), (0, 2)], 0, 9, (0, 2))
        self.check([(0, 2)], 0, 9, (0, 2))

    def test_the_made_place_is_asked_for_and_not_the_origin(self):
        rows = [(0, 5, 7, 3, 2), (3, 9, 7, 0, 5)]
        self.check(rows, 3, 2, None)
        self.check(rows, 0, 5, rows[0])
        self.check(rows, 3, 9, rows[1])

    def test_at_the_bounds(self):
        rows = [(0, 0), (0, MOST, 1, 2, 3), (LAST_LINE, MOST, MOST, MOST, MOST, MOST)]
        self.check(rows, 0, MOST - 1, rows[0])
        self.check(rows, 0, MOST, rows[1])
        self.check(rows, 0, HUGE, rows[1])
        self.check(rows, LAST_LINE, MOST - 1, None)
        self.check(rows, LAST_LINE, MOST, rows[2])
        self.check(rows, LAST_LINE, HUGE, rows[2])
        self.check(rows, HUGE, 0, None)
        self.check(rows, HUGE, HUGE, None)

    def test_of_a_full_map(self):
        told = ask(read(0, line_of_segments(200)), at(0, 0, 0), at(0, 0, 1), at(0, 0, 198), at(0, 0, 199), at(0, 0, 200))
        self.assertEqual(told[1:], [[1, 0, 0], [1, 0, 1], [1, 0, 198], [1, 0, 199], [1, 0, 199]])

    def test_each_map_has_its_own(self):
        self.assertEqual(ask(add(0, 0, 1), add(1, 0, 2, 1, 1, 1), at(0, 0, 5), at(1, 0, 5), at(2, 0, 5)),
                         [[0], [0], [1, 0, 1], [1, 0, 2, 1, 1, 1], [0]])

    def test_it_changes_nothing(self):
        self.assertEqual(ask(add(0, 1, 2), at(0, 1, 2), at(0, 1, 1), at(0, 1, 2), count(0), write(0)),
                         [[0], [1, 1, 2], [0], [1, 1, 2], [1], [2, *b";E"]])
