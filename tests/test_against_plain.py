"""Many maps, texts and lists of calls against the plain reading of the document.

The source of chance begins at a told number, so each run tests the same.
"""

import random
import unittest

from helper import (DIGITS, HUGE, LAST_LINE, MOST, Unchanging, add, append, ask, at, back, chance_map, chance_number,
                    clear, count, get, holding, is_plain_map, join, map_of_right_text, near_map, plain_ask, plain_text,
                    read, right_bytes, split_answers, text_answer, write)
from wheremaps.maps import answers


def expected_read(text):
    segments = map_of_right_text(text)
    if segments is None:
        return [-3, right_bytes(text)]
    return [len(segments)] if len(segments) <= 200 else [-4]


def spoiled(chance, text):
    """The text with one to three small changes."""
    text = bytearray(text)
    for _ in range(chance.randrange(1, 4)):
        place = chance.randrange(len(text) + 1)
        byte = chance.choice([chance.choice(DIGITS), chance.choice(b",;,;ABCDgh"), chance.randrange(256)])
        way = chance.randrange(4)
        if way == 0:
            text[place:place] = bytes([byte])
        elif way == 1:
            text[place:place + 1] = bytes([byte])
        elif way == 2:
            text[place:place + 1] = b""
        else:
            other = chance.randrange(len(text) + 1)
            text[place:place + 1], text[other:other + 1] = text[other:other + 1], text[place:place + 1]
    return bytes(text)


class Maps(unittest.TestCase):
    def test_what_is_written_is_read_again(self):
        chance = random.Random(1)
        for _ in range(1500):
            segments = chance_map(chance, 25)
            self.assertTrue(is_plain_map(segments))
            text = plain_text(segments)
            if len(text) > 5000:
                continue
            added = [add(0, *segment) for segment in segments]
            told = ask(*added, write(0), read(1, text), write(1), *[get(1, i) for i in range(len(segments) + 1)])
            self.assertEqual(told, [[0]] * len(segments) + [text_answer(text), [len(segments)], text_answer(text)]
                             + [[1, *segment] for segment in segments] + [[0]])

    def test_up_to_200_segments(self):
        chance = random.Random(2)
        for most in (200, 200, 150, 100):
            for _ in range(10):
                text = plain_text(chance_map(chance, most))
                if len(text) <= 5900:
                    self.assertEqual(ask(read(2, text), write(2)),
                                     [[len(map_of_right_text(text))], text_answer(text)])

    def test_line_ends_behind_are_taken_off(self):
        chance = random.Random(3)
        for _ in range(300):
            segments = chance_map(chance, 10)
            text = plain_text(segments)
            behind = b";" * chance.choice([1, 2, 7, 100])
            if len(text) <= 5000:
                self.assertEqual(ask(read(0, text + behind), write(0)), [[len(segments)], text_answer(text)])

    def test_two_texts_never_say_one_map(self):
        """Whatever is read at all is the text that is written, but for the ; behind it."""
        chance = random.Random(4)
        right = 0
        for _ in range(6000):
            text = bytes(chance.choice(b"ACDB;;,,g") for _ in range(chance.randrange(9)))
            told = ask(read(0, text), write(0))
            if told[0][0] >= 0:
                right += 1
                self.assertEqual(told[1], text_answer(text.rstrip(b";")))
        self.assertGreater(right, 200)


class Texts(unittest.TestCase):
    def check(self, text):
        self.assertEqual(ask(read(0, text)), [expected_read(text)], text)

    def check_all(self, signs, longest):
        texts = [b""]
        for _ in range(longest):
            texts = [text + bytes([sign]) for text in texts for sign in signs]
            for text in texts:
                self.check(text)

    def test_all_short_texts(self):
        self.check_all(b"A,;", 7)
        self.check_all(b"ACDBg,;", 4)
        self.check_all(b"AC,", 7)

    def test_all_texts_of_two_bytes(self):
        for one in range(256):
            self.check(bytes([one]))
            for two in (*DIGITS, *b",;", 0, 255, one):
                self.check(bytes([one, two]))

    def test_random_bytes(self):
        chance = random.Random(5)
        for _ in range(1500):
            self.check(bytes(chance.randrange(256) for _ in range(chance.randrange(30))))

    def test_random_digits(self):
        chance = random.Random(6)
        for signs in (DIGITS + b",;" * 10, b"ACDE,,;;", b"AACCDgB,,;;", b"ABCDEFGHIJKLMNOP,,,,;;;;gh"):
            for _ in range(1500):
                self.check(bytes(chance.choice(signs) for _ in range(chance.randrange(40))))

    def test_spoiled_right_texts(self):
        chance = random.Random(7)
        for _ in range(4000):
            segments = [segment for segment in chance_map(chance, 8) if segment[0] < 100]
            text = spoiled(chance, plain_text(segments) + b";" * chance.randrange(2))
            self.check(text)

    def test_spoiled_texts_near_the_last_line(self):
        chance = random.Random(8)
        for _ in range(40):
            text = spoiled(chance, plain_text([(LAST_LINE - 1, 4, 1, 1, 1), (LAST_LINE, 0, 0, 0, 0, 3), (LAST_LINE, 2)]))
            self.check(text)

    def test_spoiled_texts_of_about_200_segments(self):
        chance = random.Random(9)
        for many in (198, 199, 200, 201, 202):
            text = b",".join([b"A"] + [b"C"] * (many - 1))
            for _ in range(8):
                self.check(spoiled(chance, text))


class Histories(unittest.TestCase):
    def chance_call(self, chance):
        k = chance.choice([0, 0, 0, 1, 1, 2, 3, 4, HUGE]) if chance.randrange(4) == 0 else chance.randrange(2)
        way = chance.randrange(10)
        if way < 5:
            size = chance.choice([2, 2, 2, 5, 5, 6, 6, 6, chance.randrange(21)])
            segment = [chance.randrange(6), chance.randrange(12)] + [chance_number(chance) for _ in range(18)]
            if chance.randrange(8) == 0:
                segment[chance.randrange(6)] = chance.choice([LAST_LINE, LAST_LINE + 1, MOST, MOST + 1, HUGE])
            return add(k, *segment[:size])
        if way == 5:
            text = plain_text([segment for segment in chance_map(chance, 6) if segment[0] < 4])
            return read(k, spoiled(chance, text) if chance.randrange(2) else text)
        if way == 6:
            return count(k)
        if way == 7:
            return get(k, chance.choice([0, 1, 2, 3, 5, 8, HUGE]))
        return write(k)

    def test_many_lists_of_calls(self):
        chance = random.Random(10)
        seen = {}
        for _ in range(1500):
            calls = [self.chance_call(chance) for _ in range(chance.randrange(1, 61))]
            if sum(len(call) for call in calls) > 6000:
                continue
            told = ask(*calls)
            self.assertEqual(told, plain_ask(*calls))
            for call, row in zip(calls, told):
                seen[(call[0], min(row[0], 1))] = True
        for call_and_answer in ((0, 0), (0, -1), (0, -2), (1, 1), (1, -3), (1, -1), (2, 1), (3, 1), (4, 0), (4, 1)):
            self.assertIn(call_and_answer, seen)

    def test_lists_near_the_greatest_number_of_segments(self):
        chance = random.Random(11)
        for many in (197, 198, 199, 200, 201):
            for _ in range(4):
                calls = [read(1, b",".join([b"A"] + [b"C"] * (many - 1)))]
                calls += [add(1, 0, chance.randrange(195, 206)) for _ in range(12)]
                calls += [count(1), get(1, 199), get(1, 200), write(1)]
                self.assertEqual(ask(*calls), plain_ask(*calls))


def chance_k(chance):
    """A map's number, now and then of a map that there isn't."""
    return chance.randrange(4) if chance.randrange(25) else chance.choice([4, 5, HUGE])


def chance_small(chance, most):
    """A number below most, now and then one near a bound."""
    if chance.randrange(12):
        return chance.randrange(most)
    return chance.choice([LAST_LINE - 1, LAST_LINE, LAST_LINE + 1, MOST - 1, MOST, MOST + 1, HUGE])


def chance_segment(chance):
    """The numbers of a segment, or of something near to one."""
    size = chance.choice([2, 5, 5, 5, 6, 6]) if chance.randrange(20) else chance.randrange(21)
    return [chance_small(chance, most) for most in [3, 9, 2, 3, 9, 4] + [9] * 14][:size]


def chance_text(chance):
    text = plain_text(near_map(chance, 9))
    return spoiled(chance, text) if chance.randrange(6) == 0 else text


def chance_call_of(chance, number):
    """A call of that number."""
    k, j = chance_k(chance), chance_k(chance)
    if number == 0:
        return add(k, *chance_segment(chance))
    if number == 1:
        return read(k, chance_text(chance))
    if number == 4:
        return get(k, chance_small(chance, 9))
    if number == 5:
        return at(k, chance_small(chance, 4), chance_small(chance, 12))
    if number == 6:
        return back(k, chance_small(chance, 3), chance_small(chance, 4), chance_small(chance, 10))
    if number == 7:
        return join(k, j, chance_small(chance, 3), chance_small(chance, 2), chance_small(chance, 3))
    if number == 8:
        return append(k, j, chance_small(chance, 7), chance_small(chance, 14), chance_small(chance, 2),
                      chance_small(chance, 3))
    return {2: write, 3: count, 9: clear}[number](k)


class AllTenCalls(unittest.TestCase):
    NUMBERS = [0] * 6 + [1] * 6 + [2] * 4 + [3] * 2 + [4] * 3 + [5] * 6 + [6] * 6 + [7] * 7 + [8] * 7 + [9]

    def chance_calls(self, chance):
        """A list of calls that may be handed in."""
        calls = [chance_call_of(chance, chance.choice(self.NUMBERS)) for _ in range(chance.randrange(1, 61))]
        while sum(len(call) for call in calls) > 6000:
            calls.pop()
        return calls

    def test_many_lists_of_calls(self):
        chance = random.Random(12)
        seen = {}
        for _ in range(2500):
            calls = self.chance_calls(chance)
            told = ask(*calls)
            self.assertEqual(told, plain_ask(*calls))
            for call, row in zip(calls, told):
                seen[(call[0], min(row[0], 1))] = seen.get((call[0], min(row[0], 1)), 0) + 1
        for call_and_answer in ((0, 0), (0, -1), (0, -2), (1, 0), (1, 1), (1, -1), (1, -3), (2, 0), (2, 1), (2, -1),
                                (3, 0), (3, 1), (3, -1), (4, 0), (4, 1), (4, -1), (5, 0), (5, 1), (5, -1), (6, 0),
                                (6, 1), (6, -1), (7, 0), (7, -1), (7, -6), (8, 0), (8, -1), (8, -2), (8, -6), (9, 0),
                                (9, -1)):
            self.assertGreater(seen.get(call_and_answer, 0), 20, call_and_answer)

    def test_maps_that_grow_to_200_segments(self):
        chance = random.Random(13)
        seen = {}
        for _ in range(150):
            calls = [holding(k, near_map(chance, 12)) for k in range(4)]
            for step in range(30):
                k, j = chance.randrange(4), chance.randrange(4)
                calls.append(append(k, j, chance.randrange(6) * step, chance.randrange(20), chance.choice([0, 1, HUGE]),
                                    chance.choice([0, 1])))
                if step % 4 == 0:
                    calls.append(join(k, j, chance.randrange(3), 0, 1))
            calls += [count(k) for k in range(4)] + [write(k) for k in range(4)]
            told = ask(*calls)
            self.assertEqual(told, plain_ask(*calls))
            for call, row in zip(calls, told):
                seen[(call[0], row[0] if call[0] == 8 else 0)] = True
        for answer in (0, -2, -4, -6):
            self.assertIn((8, answer), seen)

    def test_what_is_handed_in_is_as_it_was_and_each_list_is_the_first(self):
        chance = random.Random(14)
        for _ in range(200):
            lists = [self.chance_calls(chance) for _ in range(2)]
            for calls in lists + lists[::-1]:
                flat = [number for call in calls for number in call]
                given = Unchanging(flat)
                self.assertEqual(split_answers(answers(given)), plain_ask(*calls))
                self.assertEqual(given, flat)
