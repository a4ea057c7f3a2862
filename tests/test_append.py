"""append: one map's segments behind another's."""

import unittest

from helper import (HUGE, LAST_LINE, MOST, append, ask, ask_and_show, at, count, holding, plain_text, text_answer,
                    write)

FIRST = [(0, 1), (2, 3, 4, 5, 6, 7)]
SECOND = [(0, 0, 1, 2, 3), (0, 4), (0, 9, 1, 2, 3, 4), (1, 0), (1, 6, 0, 0, 0, 0), (3, 2, 8, 8, 8)]


def row_of(many, line=0):
    return [(line, col) for col in range(many)]


class Append(unittest.TestCase):
    def check(self, first, second, line, col, base, names, strung):
        """strung: what map 0 is behind it; or the number of the refusal."""
        told, maps = ask_and_show(holding(0, first), holding(1, second), append(0, 1, line, col, base, names))
        refused = isinstance(strung, int)
        self.assertEqual(told[2], [strung] if refused else [0])
        self.assertEqual(maps, [first if refused else strung, second, [], []])


class WhatIsAdded(Append):
    def test_line_to_all_and_col_to_those_on_line_0(self):
        self.check(FIRST, SECOND, 2, 50, 0, 0,
                   FIRST + [(2, 50, 1, 2, 3), (2, 54), (2, 59, 1, 2, 3, 4), (3, 0), (3, 6, 0, 0, 0, 0), (5, 2, 8, 8, 8)])

    def test_base_to_sources_and_names_to_names(self):
        self.check(FIRST, SECOND, 3, 0, 10, 100,
                   FIRST + [(3, 0, 11, 2, 3), (3, 4), (3, 9, 11, 2, 3, 104), (4, 0), (4, 6, 10, 0, 0, 100),
                            (6, 2, 18, 8, 8)])

    def test_each_alone(self):
        rows = [(0, 1, 2, 3, 4, 5), (6, 7, 8, 9, 10, 11)]
        self.check([], rows, 100, 0, 0, 0, [(100, 1, 2, 3, 4, 5), (106, 7, 8, 9, 10, 11)])
        self.check([], rows, 0, 100, 0, 0, [(0, 101, 2, 3, 4, 5), (6, 7, 8, 9, 10, 11)])
        self.check([], rows, 0, 0, 100, 0, [(0, 1, 102, 3, 4, 5), (6, 7, 108, 9, 10, 11)])
        self.check([], rows, 0, 0, 0, 100, [(0, 1, 2, 3, 4, 105), (6, 7, 8, 9, 10, 111)])
        self.check([], rows, 0, 0, 0, 0, rows)

    def test_line_0_is_that_of_the_second_map(self):
        self.check([], [(0, 1), (2, 1)], 2, 5, 0, 0, [(2, 6), (4, 1)])
        self.check([], [(1, 1), (2, 1)], 0, 5, 0, 0, [(1, 1), (2, 1)])
        self.check([(0, 9)], [(1, 1), (2, 1)], 0, 5, 0, 0, [(0, 9), (1, 1), (2, 1)])

    def test_what_lies_before_stays(self):
        self.check([(0, 0, 0, 0, 0, 0), (0, 1)], [(0, 0, 0, 0, 0, 0)], 0, 2, 3, 4,
                   [(0, 0, 0, 0, 0, 0), (0, 1), (0, 2, 3, 0, 0, 4)])

    def test_several_in_turn(self):
        told, maps = ask_and_show(holding(1, [(0, 0, 0, 0, 0), (0, 3)]), append(0, 1, 0, 0, 0, 0),
                                  append(0, 1, 0, 5, 1, 0), append(0, 1, 1, 0, 2, 0))
        self.assertEqual(told, [[2], [0], [0], [0]])
        self.assertEqual(maps[0], [(0, 0, 0, 0, 0), (0, 3), (0, 5, 1, 0, 0), (0, 8), (1, 0, 2, 0, 0), (1, 3)])


class EmptyMaps(Append):
    def test_the_first(self):
        self.check([], SECOND, 0, 0, 0, 0, SECOND)
        self.check([], [(0, 0)], 0, 0, 0, 0, [(0, 0)])

    def test_the_second_with_any_numbers(self):
        full = row_of(200)
        for first in (FIRST, full, [(LAST_LINE, MOST)], []):
            self.check(first, [], 0, 0, 0, 0, first)
            self.check(first, [], HUGE, HUGE, HUGE, HUGE, first)
            self.check(first, [], LAST_LINE + 1, MOST + 1, MOST + 1, MOST + 1, first)
            for place in range(4):
                numbers = [0, 0, 0, 0]
                numbers[place] = HUGE
                self.check(first, [], *numbers, first)

    def test_an_empty_map_behind_itself(self):
        self.assertEqual(ask(append(0, 0, 0, 0, 0, 0), append(1, 1, HUGE, HUGE, HUGE, HUGE), count(0), count(1)),
                         [[0]] * 4)


class TheSameMap(unittest.TestCase):
    def check(self, rows, line, col, base, names, strung):
        told, maps = ask_and_show(holding(3, rows), append(3, 3, line, col, base, names))
        refused = isinstance(strung, int)
        self.assertEqual(told[1], [strung] if refused else [0])
        self.assertEqual(maps, [[], [], [], rows if refused else strung])

    def test_behind_itself(self):
        self.check(FIRST, 3, 7, 10, 100, FIRST + [(3, 8), (5, 3, 14, 5, 6, 107)])
        self.check([(0, 1, 0, 0, 0), (0, 4)], 0, 4, 1, 1, [(0, 1, 0, 0, 0), (0, 4), (0, 5, 1, 0, 0), (0, 8)])

    def test_not_behind_itself(self):
        self.check(FIRST, 0, 0, 0, 0, -2)
        self.check(FIRST, 2, 2, 0, 0, -2)
        self.check(FIRST, 2, 3, 0, 0, FIRST + [(2, 4), (4, 3, 4, 5, 6, 7)])
        self.check([(0, 1), (0, 4)], 0, 3, 0, 0, -2)

    def test_100_and_101_segments(self):
        self.check(row_of(100), 1, 0, 0, 0, row_of(100) + row_of(100, 1))
        self.check(row_of(101), 1, 0, 0, 0, -4)

    def test_again_and_again(self):
        calls = [holding(0, [(0, 0, 0, 0, 0)])]
        for size in (1, 2, 4, 8, 16, 32, 64, 128):
            calls += [append(0, 0, 0, size, size, 0), count(0)]
        told, maps = ask_and_show(*calls)
        self.assertEqual(told[1:], [[0], [2], [0], [4], [0], [8], [0], [16], [0], [32], [0], [64], [0], [128], [-4], [128]])
        self.assertEqual(maps[0], [(0, i, i, 0, 0) for i in range(128)])


class NotBehind(Append):
    def test_on_the_last_one_and_just_behind_it(self):
        for rest in ((), (1, 1, 1), (1, 1, 1, 1)):
            first = [(0, 0), (2, 7, *rest)]
            for line, col in ((2, 7), (2, 6), (2, 0), (1, 8), (1, MOST), (0, 0)):
                self.check(first, [(0, 0, *rest)], line, col, 0, 0, -2)
            for line, col in ((2, 8), (2, MOST), (3, 0), (3, 7)):
                self.check(first, [(0, 0, *rest)], line, col, 0, 0, first + [(line, col, *rest)])

    def test_as_it_is_when_moved(self):
        first = [(5, 5)]
        self.check(first, [(0, 3)], 5, 2, 0, 0, -2)
        self.check(first, [(0, 3)], 5, 3, 0, 0, first + [(5, 6)])
        self.check(first, [(3, 5)], 2, 0, 0, 0, -2)
        self.check(first, [(3, 5)], 2, 1, 0, 0, -2)
        self.check(first, [(3, 6)], 2, 0, 0, 0, first + [(5, 6)])
        self.check(first, [(3, 0)], 3, 0, 0, 0, first + [(6, 0)])

    def test_one_of_several_is_enough(self):
        self.check([(1, 0)], [(0, 0), (1, 1), (2, 2)], 0, 0, 0, 0, -2)
        self.check([(1, 0)], [(0, 9), (1, 1), (2, 2)], 0, MOST, 0, 0, -2)
        self.check([(1, 0)], [(1, 0), (1, 1), (2, 2)], 0, 0, 0, 0, -2)
        self.check([(1, 0)], [(1, 1), (1, 2), (2, 2)], 0, 0, 0, 0, [(1, 0), (1, 1), (1, 2), (2, 2)])

    def test_behind_the_last_and_not_the_first_alone(self):
        self.check([(0, 0), (9, 9)], [(0, 0)], 5, 0, 0, 0, -2)


class Room(Append):
    def test_200_and_201(self):
        for many in (0, 1, 99, 199, 200):
            first = row_of(many)
            self.check(first, row_of(200 - many), 1, 0, 0, 0, first + row_of(200 - many, 1))
            if many > 0:
                self.check(first, row_of(201 - many), 1, 0, 0, 0, -4)

    def test_far_more(self):
        self.check(row_of(200), row_of(200), 1, 0, 0, 0, -4)
        self.check(row_of(200), row_of(1), 0, 200, 0, 0, -4)


class Bounds(Append):
    BOUNDS = [LAST_LINE, MOST, MOST, MOST]

    def test_each_just_within_and_just_above(self):
        for rest in ((), (4, 5, 6), (4, 5, 6, 7)):
            row = (0, 3, *rest)
            there = [0, 3, *row[2:3], *row[5:]]
            for place, number in enumerate(there):
                for first in ([], [(0, 0)]):
                    within = self.BOUNDS[place] - number
                    for more in (within, within + 1, self.BOUNDS[place] + 1, HUGE):
                        added = [0, 0, 0, 0]
                        added[place] = more
                        moved = list(row)
                        moved[(0, 1, 2, 5)[place]] += more
                        self.check(first, [row], *added, first + [tuple(moved)] if more == within else -6)

    def test_the_last_line(self):
        self.check([], [(0, 0), (5, 0)], LAST_LINE - 5, 0, 0, 0, [(LAST_LINE - 5, 0), (LAST_LINE, 0)])
        self.check([], [(0, 0), (5, 0)], LAST_LINE - 4, 0, 0, 0, -6)
        self.check([], [(LAST_LINE, 8)], 0, HUGE, HUGE, HUGE, [(LAST_LINE, 8)])
        self.check([], [(LAST_LINE, 8)], 1, 0, 0, 0, -6)
        self.check([(LAST_LINE, 8)], [(0, 8)], LAST_LINE, 1, 0, 0, [(LAST_LINE, 8), (LAST_LINE, 9)])

    def test_all_at_their_bounds(self):
        most = (LAST_LINE, MOST, MOST, MOST, MOST, MOST)
        self.check([], [(0, 0, 0, MOST, MOST, 0)], LAST_LINE, MOST, MOST, MOST, [most])
        self.check([], [most], 0, MOST, 0, 0, [most])
        self.check([], [most], 0, 0, 1, 0, -6)
        self.check([], [most], 0, 0, 0, 1, -6)

    def test_what_reaches_no_segment(self):
        rows = [(1, 0), (1, 1, 2, 3, 4)]
        self.check([], rows, 0, HUGE, 0, HUGE, rows)
        self.check([], rows, 0, MOST + 1, 0, MOST + 1, rows)
        self.check([], [(1, 0), (1, 1)], 0, HUGE, HUGE, HUGE, [(1, 0), (1, 1)])

    def test_one_of_several_is_enough(self):
        for place in range(3):
            rows = [(0, i, MOST if i == place else 0, 0, 0) for i in range(3)]
            self.check([], rows, 0, 0, 1, 0, -6)
            rows = [(0, i, 0, 0, 0, MOST if i == place else 0) for i in range(3)]
            self.check([], rows, 0, 0, 0, 1, -6)


class OrderOfRefusals(Append):
    def test_not_behind_before_too_many(self):
        full = row_of(200, 1)
        self.check(full, [(0, 0)], 1, 199, 0, 0, -2)
        self.check(full, [(0, 0)], 1, 200, 0, 0, -4)

    def test_not_behind_before_above_a_bound(self):
        self.check([(5, 5)], [(0, 0, 1, 1, 1, 1)], 5, 5, HUGE, HUGE, -2)
        self.check([(5, 5)], [(0, 0, 1, 1, 1, 1)], 4, HUGE, 0, 0, -2)
        self.check([(5, 5)], [(0, 0, 1, 1, 1, 1)], 5, 6, HUGE, HUGE, -6)
        self.check([(5, 5)], [(0, 0)], 5, HUGE, 0, 0, -6)
        self.check([(5, 5)], [(0, 0)], HUGE, 0, 0, 0, -6)
        self.check([(LAST_LINE, MOST)], [(0, 0)], LAST_LINE, MOST, 0, 0, -2)
        self.check([(LAST_LINE, MOST)], [(0, 0)], LAST_LINE, MOST + 1, 0, 0, -6)
        self.check([(LAST_LINE, MOST)], [(0, 0)], LAST_LINE + 1, 0, 0, 0, -6)

    def test_too_many_before_above_a_bound(self):
        full = row_of(200)
        for numbers in ((HUGE, 0, 0, 0), (0, HUGE, 0, 0), (1, 0, HUGE, 0), (1, 0, 0, HUGE), (HUGE, HUGE, HUGE, HUGE)):
            self.check(full, [(0, 0, 1, 1, 1, 1)], *numbers, -4)
            self.check(full[:199], [(0, 0, 1, 1, 1, 1)], *numbers, -6)

    def test_all_three(self):
        self.check(row_of(200), [(0, 0, 1, 1, 1, 1)], 0, 199, HUGE, HUGE, -2)
        self.check(row_of(200), [(0, 0, 1, 1, 1, 1)], 0, 200, HUGE, HUGE, -4)

    def test_what_is_refused_changes_nothing(self):
        rows = [(0, 0, 1, 2, 3, 4), (6, 6)]
        text = text_answer(plain_text(rows))
        self.assertEqual(ask(holding(0, rows), holding(1, SECOND), append(0, 1, 6, 6, 0, 0), write(0),
                             append(0, 1, 7, 0, HUGE, 0), write(0), count(0), at(0, 9, 9), append(0, 4, 7, 0, 0, 0),
                             write(0), write(1), append(0, 1, 7, 0, 0, 0), count(0)),
                         [[2], [6], [-2], text, [-6], text, [2], [0], [-1], text, text_answer(plain_text(SECOND)), [0],
                          [8]])
