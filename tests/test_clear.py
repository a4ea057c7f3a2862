"""clear."""

import unittest

from helper import (add, append, ask, ask_and_show, at, back, clear, count, get, holding, join, line_of_segments, read,
                    write)

FIRST = [(0, 0, 1, 2, 3), (1, 4, 1, 2, 6, 5)]
SECOND = [(2, 0, 4, 4, 4), (2, 7)]


class Clear(unittest.TestCase):
    def test_an_empty_map(self):
        for k in range(4):
            self.assertEqual(ask(clear(k), clear(k), count(k), write(k)), [[0], [0], [0], [0]])

    def test_a_map_that_is_not_empty(self):
        for k in range(4):
            self.assertEqual(ask(holding(k, FIRST), clear(k), count(k), write(k), get(k, 0), at(k, 0, 0),
                                 back(k, 1, 2, 3)),
                             [[2], [0], [0], [0], [0], [0], [0]])

    def test_a_full_map_has_room_again(self):
        self.assertEqual(ask(read(0, line_of_segments(200)), add(0, 1, 0), clear(0), add(0, 0, 0), count(0)),
                         [[200], [-4], [0], [0], [1]])

    def test_the_first_segment_may_stand_anywhere_again(self):
        self.assertEqual(ask(add(0, 5, 5), add(0, 0, 0), clear(0), add(0, 0, 0), write(0)), [[0], [-2], [0], [0], [1, *b"A"]])

    def test_other_maps_stay(self):
        calls = [add(k, k, k) for k in range(4)]
        for k in range(4):
            told, maps = ask_and_show(*calls, clear(k))
            self.assertEqual(told[-1], [0])
            self.assertEqual(maps, [[] if other == k else [(other, other)] for other in range(4)])


class MapsThatWerePutTogether(unittest.TestCase):
    """A map that was put together with another is no longer bound to it."""
    JOINED = [(0, 0, 4, 4, 4), (1, 4, 4, 4, 4, 5)]
    STRUNG = FIRST + [(4, 0, 4, 4, 4), (4, 7)]

    def changed_in_turn(self, made, first_as_it_is, second_as_it_is):
        """made: calls behind which map 0 came from itself and map 1; each is then changed in some way."""
        for k, other in ((0, 1), (1, 0)):
            for change in (clear(k), add(k, 9, 9, 9, 9, 9), read(k, b""), read(k, b"A,C"), append(k, k, 9, 0, 0, 0),
                           join(k, k, 1, 0, 0), join(k, k, 4, 0, 0)):
                told, maps = ask_and_show(*made, change)
                self.assertGreaterEqual(told[-1][0], 0)
                self.assertEqual(maps[other], (first_as_it_is, second_as_it_is)[other], change)

    def test_joined(self):
        made = [holding(0, FIRST), holding(1, SECOND), join(0, 1, 1, 0, 0)]
        self.assertEqual(ask_and_show(*made)[1][:2], [self.JOINED, SECOND])
        self.changed_in_turn(made, self.JOINED, SECOND)

    def test_joined_where_nothing_changes(self):
        self.changed_in_turn([holding(0, FIRST), holding(1, SECOND), join(0, 1, 9, 0, 0)], FIRST, SECOND)

    def test_strung_behind(self):
        made = [holding(0, FIRST), holding(1, SECOND), append(0, 1, 2, 0, 0, 0)]
        self.assertEqual(ask_and_show(*made)[1][:2], [self.STRUNG, SECOND])
        self.changed_in_turn(made, self.STRUNG, SECOND)

    def test_strung_behind_an_empty_map(self):
        self.changed_in_turn([holding(1, SECOND), append(0, 1, 0, 0, 0, 0)], SECOND, SECOND)

    def test_an_empty_map_strung_behind(self):
        made = [holding(0, FIRST), append(0, 1, 0, 0, 0, 0)]
        self.changed_in_turn(made, FIRST, [])

    def test_strung_behind_itself(self):
        told, maps = ask_and_show(holding(0, FIRST), append(1, 0, 0, 0, 0, 0), append(0, 0, 2, 0, 0, 0), clear(0))
        self.assertEqual(told, [[2], [0], [0], [0]])
        self.assertEqual(maps, [[], FIRST, [], []])
