"""add, with its answer and its refusals."""

import unittest

from helper import HUGE, LAST_LINE, MOST, add, ask, count, get, line_of_segments, read, write

FULL = [1, 1, 1, 1, 1, 1]
BOUNDS = [LAST_LINE, MOST, MOST, MOST, MOST, MOST]


class Sizes(unittest.TestCase):
    def test_segments_of_2_5_and_6_numbers(self):
        for segment in ((3, 4), (3, 4, 5, 6, 7), (3, 4, 5, 6, 7, 8), (0, 0), (0, 0, 0, 0, 0), (0, 0, 0, 0, 0, 0)):
            self.assertEqual(ask(add(0, *segment), count(0), get(0, 0)), [[0], [1], [1, *segment]])

    def test_other_sizes_are_refused(self):
        for size in (0, 1, 3, 4, 7, 8, 20):
            for number in (0, 1):
                with self.subTest(size=size, number=number):
                    self.assertEqual(ask(add(0, *[number] * size), count(0)), [[-1], [0]])

    def test_what_stands_behind_a_refused_row_is_answered(self):
        self.assertEqual(ask(add(0, *[2] * 20), add(1), add(0, 2, 2), count(0)), [[-1], [-1], [0], [1]])


class Bounds(unittest.TestCase):
    def test_all_at_their_bounds(self):
        for size in (2, 5, 6):
            self.assertEqual(ask(add(2, *BOUNDS[:size]), get(2, 0)), [[0], [1, *BOUNDS[:size]]])

    def test_each_at_its_bound_and_above_it(self):
        for size in (2, 5, 6):
            for place in range(size):
                for number, answer in ((BOUNDS[place], 0), (BOUNDS[place] + 1, -1), (HUGE, -1)):
                    with self.subTest(size=size, place=place, number=number):
                        segment = FULL[:size]
                        segment[place] = number
                        self.assertEqual(ask(add(0, *segment), count(0)), [[answer], [1 + answer]])

    def test_the_made_line_has_a_bound_of_its_own(self):
        self.assertEqual(ask(add(0, 4096, 0), add(0, 4095, 4096, 4096, 4096, 4096)), [[-1], [0]])


class Order(unittest.TestCase):
    def test_on_the_place_of_the_last_one_or_before_it(self):
        for place in ((5, 7), (5, 6), (5, 0), (4, 7), (4, 8), (0, 0), (4, MOST)):
            for rest in ((), (9, 9, 9), (9, 9, 9, 9)):
                with self.subTest(place=place, rest=rest):
                    self.assertEqual(ask(add(0, 5, 7), add(0, *place, *rest), count(0), get(0, 0)),
                                     [[0], [-2], [1], [1, 5, 7]])

    def test_behind_the_last_one(self):
        for place in ((5, 8), (5, MOST), (6, 0), (6, 7), (6, 8), (LAST_LINE, 0)):
            with self.subTest(place=place):
                self.assertEqual(ask(add(0, 5, 7), add(0, *place), get(0, 1)), [[0], [0], [1, *place]])

    def test_behind_the_last_one_that_was_read(self):
        self.assertEqual(ask(read(0, b";;C,C"), add(0, 2, 2), add(0, 2, 3), write(0)),
                         [[2], [-2], [0], [7, *b";;C,C,C"]])

    def test_the_origin_has_no_order(self):
        self.assertEqual(ask(add(0, 0, 0, 9, 9, 9, 9), add(0, 0, 1, 0, 0, 0, 0), add(0, 0, 2, 9, 0, 9)), [[0]] * 3)


class Room(unittest.TestCase):
    def test_the_200th_and_the_201st(self):
        self.assertEqual(ask(read(0, line_of_segments(199)), add(0, 0, 199), add(0, 0, 200), count(0), get(0, 199),
                             get(0, 200)),
                         [[199], [0], [-4], [200], [1, 0, 199], [0]])

    def test_other_maps_still_have_room(self):
        self.assertEqual(ask(read(0, line_of_segments(200)), add(0, 1, 0), add(1, 1, 0), count(0), count(1)),
                         [[200], [-4], [0], [200], [1]])


class OrderOfRefusals(unittest.TestCase):
    def test_of_a_full_map(self):
        full = read(3, line_of_segments(200))
        self.assertEqual(ask(full, add(3, 0, 199, 0), add(3, 0, MOST + 1), add(3, 0, 199), add(3, 0, 0, 1, 1, MOST + 1),
                             add(3, 0, 200), add(4, 0, 200), add(4, 0), count(3)),
                         [[200], [-1], [-1], [-2], [-1], [-4], [-1], [-1], [200]])

    def test_no_segment_comes_before_not_behind(self):
        self.assertEqual(ask(add(0, 5, 5), add(0, 5), add(0, 5, 5, 5), add(0, 4, MOST + 1), add(0, 5, 5, 0, 0, 0, HUGE)),
                         [[0], [-1], [-1], [-1], [-1]])

    def test_what_is_refused_changes_nothing(self):
        self.assertEqual(ask(add(0, 1, 5, 1, 2, 3, 4), add(0, 9, 9, 9), add(0, 1, 5), add(0, 2, HUGE), write(0),
                             count(0), add(0, 1, 6), count(0)),
                         [[0], [-1], [-2], [-1], [6, *b";KCEGI"], [1], [0], [2]])
