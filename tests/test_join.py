"""join: each segment of a map through another."""

import unittest

from helper import (HUGE, LAST_LINE, MOST, ask, ask_and_show, at, count, holding, join, plain_text, text_answer,
                    write)

# What the tests look into: on line 0 one without an origin, one without a name and one with one; on line 3 one.
SECOND = [(0, 2), (0, 4, 5, 6, 7), (0, 8, 5, 16, 17, 18), (3, 0, 1, 0, 0)]
# Of source 1 are those that are looked for; the others stay.
FIRST = [(0, 0, 1, 0, 0), (0, 1, 1, 0, 3, 9), (0, 2, 1, 0, 4), (0, 3), (0, 4, 1, 0, 9, 9), (1, 0, 1, 0, 8),
         (1, 1, 2, 0, 4), (1, 2, 0, 0, 4, 4), (2, 0, 1, 1, 4), (2, 1, 1, 3, 30)]


class Join(unittest.TestCase):
    def check(self, first, second, src, base, names, joined):
        """joined: what map 0 is behind it; or None if the join is refused."""
        told, maps = ask_and_show(holding(0, first), holding(1, second), join(0, 1, src, base, names))
        self.assertEqual(told[2], [-6] if joined is None else [0])
        self.assertEqual(maps, [first if joined is None else joined, second, [], []])


class Through(Join):
    def test_each_of_several(self):
        self.check(FIRST, SECOND, 1, 0, 0,
                   [(0, 0), (0, 1), (0, 2, 5, 6, 7), (0, 3), (0, 4, 5, 16, 17, 9), (1, 0, 5, 16, 17, 18),
                    (1, 1, 2, 0, 4), (1, 2, 0, 0, 4, 4), (2, 0), (2, 1, 1, 0, 0)])

    def test_each_of_several_with_base_and_names(self):
        self.check(FIRST, SECOND, 1, 100, 1000,
                   [(0, 0), (0, 1), (0, 2, 105, 6, 7), (0, 3), (0, 4, 105, 16, 17, 9), (1, 0, 105, 16, 17, 1018),
                    (1, 1, 2, 0, 4), (1, 2, 0, 0, 4, 4), (2, 0), (2, 1, 101, 0, 0)])

    def test_a_source_that_no_segment_has(self):
        for src in (3, 5, MOST, MOST + 1, HUGE):
            for more in (0, 1, HUGE):
                self.check(FIRST, SECOND, src, more, more, FIRST)

    def test_a_look_that_finds_none(self):
        for rest in ((1, 0, 1), (1, 0, 0, 6), (1, 1, 5), (1, 2, MOST, 6), (1, 4, 0), (1, LAST_LINE, 9), (1, MOST, MOST)):
            for more in (0, 1, HUGE):
                self.check([(4, 4, *rest)], SECOND, 1, more, more, [(4, 4)])

    def test_a_look_that_finds_one_without_an_origin(self):
        for rest in ((1, 0, 2), (1, 0, 3), (1, 0, 2, 6), (1, 0, 3, 6)):
            for more in (0, 1, HUGE):
                self.check([(4, 4, *rest)], SECOND, 1, more, more, [(4, 4)])

    def test_names(self):
        for own, col, name in (((), 7, ()), ((), 8, (22,)), ((3,), 7, (3,)), ((3,), 8, (3,)), ((0,), 8, (0,)),
                               ((0,), 7, (0,))):
            line = 6 if col == 7 else 16
            with self.subTest(own=own, col=col):
                self.check([(0, 0, 1, 0, col, *own)], SECOND, 1, 0, 4, [(0, 0, 5, line, line + 1, *name)])

    def test_a_name_of_0_is_a_name(self):
        self.check([(0, 0, 0, 0, 0)], [(0, 0, 0, 0, 0, 0)], 0, 0, 0, [(0, 0, 0, 0, 0, 0)])
        self.check([(0, 0, 0, 0, 0)], [(0, 0, 0, 0, 0, 0)], 0, 2, 3, [(0, 0, 2, 0, 0, 3)])
        self.check([(0, 0, 0, 0, 0, 0)], [(0, 0, 0, 0, 0, 7)], 0, 2, 3, [(0, 0, 2, 0, 0, 0)])

    def test_base_is_added_to_the_source_alone(self):
        self.check([(1, 2, 0, 0, 4)], SECOND, 0, 30, 40, [(1, 2, 35, 6, 7)])
        self.check([(1, 2, 0, 0, 4, 9)], SECOND, 0, 30, 40, [(1, 2, 35, 6, 7, 9)])
        self.check([(1, 2, 0, 0, 4, 9)], SECOND, 0, 0, 40, [(1, 2, 5, 6, 7, 9)])

    def test_other_sources_and_segments_without_an_origin_stay(self):
        rows = [(0, 0), (0, 1, 0, 0, 4), (0, 2, 2, 0, 4, 1), (0, 3), (7, 7, 2, 9, 9)]
        self.check(rows, SECOND, 1, 3, 3, rows)

    def test_the_source_0_is_none_of_those_without_an_origin(self):
        self.check([(0, 0), (0, 5, 0, 0, 4)], SECOND, 0, 1, 1, [(0, 0), (0, 5, 6, 6, 7)])

    def test_what_was_put_in_is_not_looked_for_again(self):
        self.check([(0, 0, 1, 3, 0)], SECOND, 1, 0, 0, [(0, 0, 1, 0, 0)])

    def test_the_order_of_the_origins_is_of_no_weight(self):
        self.check([(0, 0, 1, 0, 9), (0, 1, 1, 0, 4), (0, 2, 1, 3, 1), (0, 3, 1, 0, 8)], SECOND, 1, 0, 0,
                   [(0, 0, 5, 16, 17, 18), (0, 1, 5, 6, 7), (0, 2, 1, 0, 0), (0, 3, 5, 16, 17, 18)])

    def test_empty_maps(self):
        for more in (0, 1, HUGE):
            self.check([], [], more, more, more, [])
            self.check([], SECOND, more, more, more, [])
            self.check(FIRST, [], 2, more, more, FIRST[:6] + [(1, 1)] + FIRST[7:])
            self.check(FIRST, [], 1, more, more, [row[:2] if row[2:3] == (1,) else row for row in FIRST])

    def test_a_full_map(self):
        first = [(0, i, 0, 0, i) for i in range(200)]
        second = [(0, i, 1, 0, i, i) for i in range(0, 200, 2)]
        self.check(first, second, 0, 2, 3, [(0, i, 3, 0, i - i % 2, i - i % 2 + 3) for i in range(200)])


class TheSameMap(unittest.TestCase):
    def check(self, rows, src, base, names, joined):
        told, maps = ask_and_show(holding(2, rows), join(2, 2, src, base, names))
        self.assertEqual(told[1], [-6] if joined is None else [0])
        self.assertEqual(maps, [[], [], rows if joined is None else joined, []])

    def test_as_it_was_and_not_as_it_is_becoming(self):
        # Each is looked for one place before it: were the map changed on the way, all would have the first's origin.
        rows = [(0, 0, 0, 7, 0)] + [(0, i, 0, 0, i - 1) for i in range(1, 6)]
        self.check(rows, 0, 0, 0, [(0, 0), (0, 1, 0, 7, 0)] + [(0, i, 0, 0, i - 2) for i in range(2, 6)])
        # And here one place behind it: were it changed from the end on, all would have the last's.
        rows = [(0, i, 0, 0, i + 1) for i in range(5)] + [(0, 5, 0, 7, 0)]
        self.check(rows, 0, 0, 0, [(0, i, 0, 0, i + 2) for i in range(4)] + [(0, 4, 0, 7, 0), (0, 5)])

    def test_base_and_names_once(self):
        rows = [(0, 0, 0, 0, 0, 3), (0, 1, 0, 0, 0), (0, 2, 0, 0, 1), (0, 3, 9, 0, 1)]
        self.check(rows, 0, 10, 100, [(0, 0, 10, 0, 0, 3), (0, 1, 10, 0, 0, 103), (0, 2, 10, 0, 0), (0, 3, 9, 0, 1)])

    def test_of_itself_at_its_own_place(self):
        rows = [(3, 4, 0, 3, 4), (3, 9, 1, 3, 9, 1)]
        self.check(rows, 0, 0, 0, rows)
        self.check(rows, 1, 5, 5, [(3, 4, 0, 3, 4), (3, 9, 6, 3, 9, 1)])

    def test_refused(self):
        self.check([(0, 0, 0, 0, 0, 3), (0, 1, 0, 0, 0)], 0, MOST + 1, 0, None)
        self.check([(0, 0, 0, 0, 0, 3), (0, 1, 0, 0, 0)], 0, 0, MOST - 2, None)
        self.check([(0, 0, 0, 0, 0, 3), (0, 1, 0, 0, 0)], 0, MOST, MOST - 3,
                   [(0, 0, MOST, 0, 0, 3), (0, 1, MOST, 0, 0, MOST)])


class Bounds(Join):
    def test_base_just_within_and_just_above(self):
        for own in ((), (3,)):
            for source in (0, 1, 5, MOST):
                second = [(0, 0, source, 1, 2)]
                self.check([(0, 0, 1, 0, 0, *own)], second, 1, MOST - source, 0, [(0, 0, MOST, 1, 2, *own)])
                for base in (MOST - source + 1, MOST + 1, HUGE):
                    self.check([(0, 0, 1, 0, 0, *own)], second, 1, base, 0, None)

    def test_names_just_within_and_just_above(self):
        for name in (0, 1, 5, MOST):
            second = [(0, 0, 0, 1, 2, name)]
            self.check([(0, 0, 1, 0, 0)], second, 1, 0, MOST - name, [(0, 0, 0, 1, 2, MOST)])
            for names in (MOST - name + 1, MOST + 1, HUGE):
                self.check([(0, 0, 1, 0, 0)], second, 1, 0, names, None)

    def test_both(self):
        second = [(0, 0, 4, 1, 2, 8)]
        self.check([(0, 0, 1, 0, 0)], second, 1, MOST - 4, MOST - 8, [(0, 0, MOST, 1, 2, MOST)])
        for base, names in ((MOST - 3, MOST - 8), (MOST - 4, MOST - 7), (MOST - 3, MOST - 7), (HUGE, HUGE)):
            self.check([(0, 0, 1, 0, 0)], second, 1, base, names, None)

    def test_names_that_reach_no_segment(self):
        # The one has a name of its own, what the others find has none.
        first = [(0, 0, 1, 0, 8, 2), (0, 1, 1, 0, 4), (0, 2, 1, 3, 3), (0, 3, 1, 0, 2), (0, 4, 2, 0, 8)]
        for names in (MOST + 1, HUGE):
            self.check(first, SECOND, 1, 0, names,
                       [(0, 0, 5, 16, 17, 2), (0, 1, 5, 6, 7), (0, 2, 1, 0, 0), (0, 3), (0, 4, 2, 0, 8)])

    def test_base_that_reaches_no_segment(self):
        first = [(0, 0), (0, 1, 1, 0, 0, 2), (0, 2, 1, 0, 3), (0, 3, 0, 0, 8, MOST), (0, 4, MOST, 0, 4)]
        for more in (MOST, MOST + 1, HUGE):
            self.check(first, SECOND, 1, more, more, [(0, 0), (0, 1), (0, 2)] + first[3:])

    def test_one_of_several_is_enough(self):
        for place in range(3):
            first = [(0, i, 1, 0, 8 if i == place else 4) for i in range(3)]
            self.check(first, SECOND, 1, 0, MOST, None)
            self.check(first, SECOND, 1, MOST, 0, None)

    def test_numbers_at_their_bounds(self):
        most = (LAST_LINE, MOST, MOST, MOST, MOST, MOST)
        self.check([(LAST_LINE, MOST, MOST, LAST_LINE, MOST)], [most], MOST, 0, 0, [most])
        self.check([(LAST_LINE, MOST, MOST, LAST_LINE, MOST)], [most], MOST, 1, 0, None)
        self.check([(LAST_LINE, MOST, MOST, LAST_LINE, MOST)], [most], MOST, 0, 1, None)
        self.check([(LAST_LINE, MOST, MOST, LAST_LINE, MOST, 4)], [most], MOST, 0, 1, [most[:5] + (4,)])
        self.check([most], [most], MOST, 0, 0, [(LAST_LINE, MOST)])

    def test_a_line_of_an_origin_has_the_greater_bound(self):
        self.check([(0, 0, 0, 0, 0)], [(0, 0, 0, LAST_LINE + 1, 0)], 0, 0, 0, [(0, 0, 0, LAST_LINE + 1, 0)])


class WhatIsRefusedChangesNothing(unittest.TestCase):
    def test_the_calls_behind_it(self):
        rows = [(0, 0, 1, 0, 4), (0, 1, 1, 0, 8), (0, 2)]
        text = text_answer(plain_text(rows))
        self.assertEqual(ask(holding(0, rows), holding(1, SECOND), join(0, 1, 1, 0, MOST), write(0), count(0),
                             at(0, 0, 1), join(0, 1, 1, HUGE, 0), write(0), write(1), join(0, 4, 1, 0, 0), write(0),
                             join(0, 1, 1, 0, 0), write(0)),
                         [[3], [4], [-6], text, [3], [1, 0, 1, 1, 0, 8], [-6], text, text_answer(plain_text(SECOND)),
                          [-1], text, [0], text_answer(plain_text([(0, 0, 5, 6, 7), (0, 1, 5, 16, 17, 18), (0, 2)]))])
