"""What the document promises of maps that are put together, over many maps and at all places of a small field.

The looks on both sides are the program's own: it's promised that they agree.
"""

import random
import unittest

from helper import (HUGE, MOST, append, ask, ask_and_show, at, back, holding, is_plain_map, join, near_map,
                    plain_found, plain_moved, plain_text, plain_through, read, text_answer, write)

LINES = range(4)
COLS = range(10)


def looks(k, *before):
    """What the looks forward in map k find behind the calls, at each place of the field: a segment or None."""
    places = [(line, col) for line in LINES for col in COLS]
    told = ask(*before, *[at(k, *place) for place in places])[len(before):]
    return {place: tuple(row[1:]) or None for place, row in zip(places, told)}


class Joins(unittest.TestCase):
    def test_a_look_in_a_join_is_the_look_in_the_first_through_the_second(self):
        chance = random.Random(21)
        changed = 0
        for _ in range(400):
            first, second = near_map(chance, 10), near_map(chance, 10)
            src, base, names = chance.randrange(3), chance.randrange(3), chance.randrange(3)
            calls = [holding(0, first), holding(1, second)]
            before = looks(0, *calls)
            behind = looks(0, *calls, join(0, 1, src, base, names))
            self.assertEqual(behind, {place: plain_through(found, second, src, base, names)
                                      for place, found in before.items()})
            changed += before != behind
        self.assertGreater(changed, 150)

    def test_two_looks_find_what_one_look_in_the_join_finds(self):
        """By the calls alone: at in the first, at in the second at the origin that was found."""
        chance = random.Random(22)
        seen = {}
        for _ in range(1500):
            first, second = near_map(chance, 10), near_map(chance, 10)
            src, place = chance.randrange(2), (chance.randrange(3), chance.randrange(9))
            calls = [holding(0, first), holding(1, second)]
            one = ask(*calls, join(0, 1, src, 0, 0), at(0, *place))[-1]
            found = ask(*calls, at(0, *place))[-1]
            if len(found) < 4 or found[3] != src:
                self.assertEqual(one, found)
                continue
            then = ask(*calls, at(1, found[4], found[5]))[-1]
            self.assertEqual(one[:6], [*found[:3], *then[3:6]])
            self.assertEqual(one[6:], (found[6:] or then[6:]) if len(then) > 3 else [])
            seen[(len(found), len(then))] = True
        self.assertEqual(sorted(seen), [(size, other) for size in (6, 7) for other in (1, 3, 6, 7)])

    def test_a_map_through_itself(self):
        chance = random.Random(23)
        for _ in range(300):
            rows = near_map(chance, 12)
            src, base, names = chance.randrange(3), chance.randrange(3), chance.randrange(3)
            told, maps = ask_and_show(holding(0, rows), join(0, 0, src, base, names))
            self.assertEqual(told[1], [0])
            self.assertEqual(maps[0], [plain_through(row, rows, src, base, names) for row in rows])

    def test_through_two_maps_in_turn_or_through_their_join(self):
        """Three texts made one out of another: it's the same which two are put together first."""
        chance = random.Random(24)
        for _ in range(600):
            rows = [[row[:2] + (0,) + row[3:] if row[2:] else row for row in near_map(chance, 12)] for _ in range(3)]
            calls = [holding(k, rows[k]) for k in range(3)]
            left = ask(*calls, join(0, 1, 0, 0, 0), join(0, 2, 0, 0, 0), write(0))[-1]
            right = ask(*calls, join(1, 2, 0, 0, 0), join(0, 1, 0, 0, 0), write(0))[-1]
            self.assertEqual(left, right)


class Strings(unittest.TestCase):
    def test_a_look_in_what_was_strung_together(self):
        chance = random.Random(25)
        strung = 0
        for _ in range(800):
            first, second = near_map(chance, 8), near_map(chance, 8)
            numbers = [chance.randrange(3), chance.randrange(8), chance.randrange(3), chance.randrange(3)]
            calls = [holding(0, first), holding(1, second)]
            answer = ask(*calls, append(0, 1, *numbers))[-1]
            before = looks(0, *calls)
            behind = looks(0, *calls, append(0, 1, *numbers))
            if answer != [0]:
                self.assertEqual(answer, [-2])
                self.assertEqual(behind, before)
                continue
            strung += 1
            for (line, col), found in behind.items():
                self.assertEqual(found, self.look_moved(calls, numbers, line, col) or before[(line, col)])
        self.assertGreater(strung, 200)

    def look_moved(self, calls, numbers, line, col):
        """The look in the second, moved, by the call at: at the place that moves to this one."""
        place = (line - numbers[0], col - numbers[1] if line == numbers[0] else col)
        if min(place) < 0:
            return None
        row = ask(*calls, at(1, *place))[-1]
        return plain_moved(tuple(row[1:]) or None, *numbers)

    def test_what_lies_before_stays(self):
        chance = random.Random(26)
        for _ in range(400):
            first, second = near_map(chance, 8), near_map(chance, 8)
            numbers = [chance.randrange(4), chance.randrange(8), chance.randrange(3), chance.randrange(3)]
            told, maps = ask_and_show(holding(0, first), holding(1, second), append(0, 1, *numbers))
            moved = [plain_moved(row, *numbers) for row in second]
            self.assertEqual(maps, [first + (moved if told[2] == [0] else []), second, [], []])

    def test_three_strung_together_in_either_order(self):
        chance = random.Random(27)
        for _ in range(200):
            one, two, three = near_map(chance, 6), near_map(chance, 6), near_map(chance, 6)
            calls = [holding(0, one), holding(1, two), holding(2, three)]
            left = ask(*calls, append(0, 1, 3, 0, 2, 4), append(0, 2, 6, 0, 4, 8), write(0))
            right = ask(*calls, append(1, 2, 3, 0, 2, 4), append(0, 1, 3, 0, 2, 4), write(0))
            self.assertEqual(left[3:], right[3:])

    def test_strung_together_and_joined_or_joined_and_strung_together(self):
        chance = random.Random(28)
        for _ in range(300):
            one, two, three = near_map(chance, 8), near_map(chance, 8), near_map(chance, 8)
            src, base, names = chance.randrange(2), chance.randrange(3), chance.randrange(3)
            calls = [holding(0, one), holding(1, two), holding(2, three)]
            left = ask(*calls, append(0, 1, 3, 0, 0, 0), join(0, 2, src, base, names), write(0))
            right = ask(*calls, join(0, 2, src, base, names), join(1, 2, src, base, names), append(0, 1, 3, 0, 0, 0),
                        write(0))
            self.assertEqual(left[-1], right[-1])


class ForwardAndBack(unittest.TestCase):
    def check(self, *calls):
        """Whatever is found forward in map 0 behind the calls is found back; how many were asked for."""
        found = {segment for segment in looks(0, *calls).values() if segment and len(segment) >= 5}
        for segment in found:
            told = ask(*calls, back(0, *segment[2:5]))[-1]
            self.assertEqual(told[3:6], list(segment[2:5]))
            # It's the first of them, so it stands no further down than the one that was found forward.
            self.assertLessEqual(tuple(told[1:3]), segment[:2])
        return len(found)

    def test_what_is_found_forward_is_found_back(self):
        chance = random.Random(29)
        asked = 0
        for _ in range(200):
            calls = [holding(0, near_map(chance, 10)), holding(1, near_map(chance, 10))]
            asked += self.check(*calls)
            asked += self.check(*calls, join(0, 1, chance.randrange(2), 0, 1))
            asked += self.check(*calls, append(0, 1, 2, chance.randrange(9), 0, 1))
        self.assertGreater(asked, 1000)

    def test_every_segment_with_an_origin_by_all_looks_back(self):
        chance = random.Random(30)
        for _ in range(100):
            rows = near_map(chance, 10)
            places = [(src, line, col) for src in range(2) for line in range(3) for col in range(9)]
            told = ask(holding(0, rows), *[back(0, *place) for place in places])[1:]
            for (src, line, col), row in zip(places, told):
                there = sorted((-origin[4], i) for i, origin in enumerate(rows)
                               if origin[2:4] == (src, line) and origin[4] <= col)
                self.assertEqual(row, plain_found(rows[there[0][1]] if there else None))


class WrittenAndRead(unittest.TestCase):
    def test_behind_joins_and_strings(self):
        chance = random.Random(31)
        for _ in range(600):
            calls = [holding(k, near_map(chance, 8)) for k in range(3)]
            for _ in range(chance.randrange(1, 7)):
                k, j = chance.randrange(3), chance.randrange(3)
                more = chance.choice([0, 1, 5, MOST - 3, MOST, HUGE])
                calls.append(chance.choice([join(k, j, chance.randrange(3), more, chance.randrange(9)),
                                            join(k, j, chance.randrange(3), chance.randrange(9), more),
                                            append(k, j, chance.randrange(9), chance.randrange(20), more, 0),
                                            append(k, j, chance.randrange(4), more, 0, chance.randrange(9))]))
            told, maps = ask_and_show(*calls)
            for k in range(3):
                self.assertTrue(is_plain_map(maps[k]))
                text = plain_text(maps[k])
                self.assertEqual(ask(*calls, write(k), read(3, text), write(3))[-3:],
                                 [text_answer(text), [len(maps[k])], text_answer(text)])
                self.assertEqual(looks(3, read(3, text)), looks(k, *calls))
