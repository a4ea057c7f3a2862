"""back: a look back."""

import unittest

from helper import HUGE, LAST_LINE, MOST, add, ask, back, count, holding, write

# Three of source 2, line 5 with cols 4, 9, 9 and 4 again, and others between them.
ROWS = [(0, 0), (0, 3, 2, 5, 4), (0, 5, 2, 5, 9, 1), (1, 0, 2, 6, 9), (1, 1), (1, 2, 2, 5, 9), (2, 0, 2, 5, 4, 3),
        (2, 1, 3, 5, 8), (2, 2)]


class Back(unittest.TestCase):
    def check(self, rows, src, line, col, found):
        """found: the segment's numbers, or None."""
        self.assertEqual(ask(holding(0, rows), back(0, src, line, col))[1], [0] if found is None else [1, *found],
                         (src, line, col))

    def test_the_empty_map(self):
        for src in (0, 1, HUGE):
            for line in (0, 1, HUGE):
                for col in (0, 1, HUGE):
                    self.assertEqual(ask(back(0, src, line, col), back(3, src, line, col)), [[0], [0]])

    def test_no_segment_of_that_source(self):
        for src in (0, 1, 4, MOST, HUGE):
            self.check(ROWS, src, 5, 9, None)

    def test_no_segment_of_that_line(self):
        for line in (0, 1, 2, 4, 7, MOST, HUGE):
            self.check(ROWS, 2, line, 9, None)
        self.check(ROWS, 3, 6, 9, None)

    def test_no_col_that_is_not_above(self):
        for col in (0, 3):
            self.check(ROWS, 2, 5, col, None)
        self.check(ROWS, 3, 5, 7, None)
        self.check(ROWS, 2, 6, 8, None)

    def test_on_a_col_between_two_and_behind_the_last(self):
        for col in (4, 5, 8):
            self.check(ROWS, 2, 5, col, ROWS[1])
        for col in (9, 10, MOST, HUGE):
            self.check(ROWS, 2, 5, col, ROWS[2])
            self.check(ROWS, 2, 6, col, ROWS[3])
            self.check(ROWS, 3, 5, col, ROWS[7])
        self.check(ROWS, 3, 5, 8, ROWS[7])

    def test_the_first_of_the_same_greatest_col(self):
        rows = [(0, 0, 1, 1, 3), (0, 1, 1, 1, 7, 5), (0, 2, 1, 1, 7), (3, 0, 1, 1, 7, 6), (3, 1, 1, 1, 2)]
        for col in (7, 8, HUGE):
            self.check(rows, 1, 1, col, rows[1])
        for col in (3, 6):
            self.check(rows, 1, 1, col, rows[0])
        self.check(rows, 1, 1, 2, rows[4])
        self.check(rows, 1, 1, 1, None)

    def test_the_greatest_col_wherever_it_stands(self):
        for cols in ((1, 2, 3), (1, 3, 2), (2, 1, 3), (2, 3, 1), (3, 1, 2), (3, 2, 1)):
            rows = [(i, 9 - i, 0, 0, col) for i, col in enumerate(cols)]
            for col in (1, 2, 3):
                self.check(rows, 0, 0, col, rows[cols.index(col)])
            self.check(rows, 0, 0, 4, rows[cols.index(3)])
            self.check(rows, 0, 0, 0, None)

    def test_a_greater_col_above_is_not_taken(self):
        self.check([(0, 0, 0, 0, 9), (0, 1, 0, 0, 4), (0, 2, 0, 0, 8)], 0, 0, 7, (0, 1, 0, 0, 4))

    def test_segments_without_an_origin_are_not_found(self):
        rows = [(0, 0), (0, 1, 0, 0, 0), (0, 2), (1, 0)]
        self.check(rows, 0, 0, 0, rows[1])
        self.check(rows, 0, 0, 9, rows[1])
        self.check(rows, 0, 1, 0, None)
        self.check([(0, 0), (0, 1)], 0, 0, 0, None)
        self.check([(0, 0), (0, 1)], 0, 0, HUGE, None)

    def test_the_origin_is_asked_for_and_not_the_made_place(self):
        rows = [(3, 4, 1, 7, 8, 2)]
        self.check(rows, 1, 3, 4, None)
        self.check(rows, 2, 7, 8, None)
        self.check(rows, 1, 7, 8, rows[0])

    def test_greater_numbers_are_no_nearer_lines(self):
        rows = [(0, 0, 1, 1, 5), (0, 1, 1, 2, 0)]
        self.check(rows, 1, 2, 5, rows[1])
        self.check(rows, 1, 3, 5, None)
        self.check(rows, 2, 1, 5, None)

    def test_at_the_bounds(self):
        rows = [(0, 0, 0, 0, 0), (LAST_LINE, MOST, MOST, MOST, MOST, MOST)]
        self.check(rows, MOST, MOST, MOST, rows[1])
        self.check(rows, MOST, MOST, HUGE, rows[1])
        self.check(rows, MOST, MOST, MOST - 1, None)
        self.check(rows, MOST, HUGE, MOST, None)
        self.check(rows, HUGE, MOST, MOST, None)
        self.check(rows, HUGE, HUGE, HUGE, None)
        self.check(rows, 0, 0, HUGE, rows[0])
        self.check(rows, 0, HUGE, 0, None)
        self.check(rows, HUGE, 0, 0, None)

    def test_each_map_has_its_own(self):
        self.assertEqual(ask(add(0, 0, 1, 0, 0, 0), add(1, 0, 2, 0, 0, 0), back(0, 0, 0, 5), back(1, 0, 0, 5),
                             back(2, 0, 0, 5)),
                         [[0], [0], [1, 0, 1, 0, 0, 0], [1, 0, 2, 0, 0, 0], [0]])

    def test_it_changes_nothing(self):
        self.assertEqual(ask(add(0, 1, 2, 1, 2, 3), back(0, 1, 2, 3), back(0, 1, 2, 2), back(0, 1, 2, 3), count(0),
                             write(0)),
                         [[0], [1, 1, 2, 1, 2, 3], [0], [1, 1, 2, 1, 2, 3], [1], [5, *b";ECEG"]])
