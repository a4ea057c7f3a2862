"""Many maps, texts and lists of calls against the plain reading of the document.

The source of chance begins at a told number, so each run tests the same.
"""

import random
import unittest

from helper import (DIGITS, HUGE, LAST_LINE, MOST, add, ask, chance_map, chance_number, count, get, is_plain_map,
                    map_of_right_text, plain_ask, plain_text, read, right_bytes, text_answer, write)


def expected_read(text):
    segments = map_of_right_text(text)
    if segments is None:
        return [-3, right_bytes(text)]
    return [len(segments)] if len(segments) <= 200 else [-4]


def spoiled(chance, text):
    """The text with one to three small changes."""
    text = bytearray(text)
    for _ in range(chance.randrange(1, 4)):
        place = chance.randrange(len(text) + 1)
        byte = chance.choice([chance.choice(DIGITS), chance.choice(b",;,;ABCDgh"), chance.randrange(256)])
        way = chance.randrange(4)
        if way == 0:
            text[place:place] = bytes([byte])
        elif way == 1:
            text[place:place + 1] = bytes([byte])
        elif way == 2:
            text[place:place + 1] = b""
        else:
            other = chance.randrange(len(text) + 1)
            text[place:place + 1], text[other:other + 1] = text[other:other + 1], text[place:place + 1]
    return bytes(text)


class Maps(unittest.TestCase):
    def test_what_is_written_is_read_again(self):
        chance = random.Random(1)
        for _ in range(1500):
            segments = chance_map(chance, 25)
            self.assertTrue(is_plain_map(segments))
            text = plain_text(segments)
            if len(text) > 5000:
                continue
            added = [add(0, *segment) for segment in segments]
            told = ask(*added, write(0), read(1, text), write(1), *[get(1, i) for i in range(len(segments) + 1)])
            self.assertEqual(told, [[0]] * len(segments) + [text_answer(text), [len(segments)], text_answer(text)]
                             + [[1, *segment] for segment in segments] + [[0]])

    def test_up_to_200_segments(self):
        chance = random.Random(2)
        for most in (200, 200, 150, 100):
            for _ in range(10):
                text = plain_text(chance_map(chance, most))
                if len(text) <= 5900:
                    self.assertEqual(ask(read(2, text), write(2)),
                                     [[len(map_of_right_text(text))], text_answer(text)])

    def test_line_ends_behind_are_taken_off(self):
        chance = random.Random(3)
        for _ in range(300):
            segments = chance_map(chance, 10)
            text = plain_text(segments)
            behind = b";" * chance.choice([1, 2, 7, 100])
            if len(text) <= 5000:
                self.assertEqual(ask(read(0, text + behind), write(0)), [[len(segments)], text_answer(text)])

    def test_two_texts_never_say_one_map(self):
        """Whatever is read at all is the text that is written, but for the ; behind it."""
        chance = random.Random(4)
        right = 0
        for _ in range(6000):
            text = bytes(chance.choice(b"ACDB;;,,g") for _ in range(chance.randrange(9)))
            told = ask(read(0, text), write(0))
            if told[0][0] >= 0:
                right += 1
                self.assertEqual(told[1], text_answer(text.rstrip(b";")))
        self.assertGreater(right, 200)


class Texts(unittest.TestCase):
    def check(self, text):
        self.assertEqual(ask(read(0, text)), [expected_read(text)], text)

    def check_all(self, signs, longest):
        texts = [b""]
        for _ in range(longest):
            texts = [text + bytes([sign]) for text in texts for sign in signs]
            for text in texts:
                self.check(text)

    def test_all_short_texts(self):
        self.check_all(b"A,;", 7)
        self.check_all(b"ACDBg,;", 4)
        self.check_all(b"AC,", 7)

    def test_all_texts_of_two_bytes(self):
        for one in range(256):
            self.check(bytes([one]))
            for two in (*DIGITS, *b",;", 0, 255, one):
                self.check(bytes([one, two]))

    def test_random_bytes(self):
        chance = random.Random(5)
        for _ in range(1500):
            self.check(bytes(chance.randrange(256) for _ in range(chance.randrange(30))))

    def test_random_digits(self):
        chance = random.Random(6)
        for signs in (DIGITS + b",;" * 10, b"ACDE,,;;", b"AACCDgB,,;;", b"ABCDEFGHIJKLMNOP,,,,;;;;gh"):
            for _ in range(1500):
                self.check(bytes(chance.choice(signs) for _ in range(chance.randrange(40))))

    def test_spoiled_right_texts(self):
        chance = random.Random(7)
        for _ in range(4000):
            segments = [segment for segment in chance_map(chance, 8) if segment[0] < 100]
            text = spoiled(chance, plain_text(segments) + b";" * chance.randrange(2))
            self.check(text)

    def test_spoiled_texts_near_the_last_line(self):
        chance = random.Random(8)
        for _ in range(40):
            text = spoiled(chance, plain_text([(LAST_LINE - 1, 4, 1, 1, 1), (LAST_LINE, 0, 0, 0, 0, 3), (LAST_LINE, 2)]))
            self.check(text)

    def test_spoiled_texts_of_about_200_segments(self):
        chance = random.Random(9)
        for many in (198, 199, 200, 201, 202):
            text = b",".join([b"A"] + [b"C"] * (many - 1))
            for _ in range(8):
                self.check(spoiled(chance, text))


class Histories(unittest.TestCase):
    def chance_call(self, chance):
        k = chance.choice([0, 0, 0, 1, 1, 2, 3, 4, HUGE]) if chance.randrange(4) == 0 else chance.randrange(2)
        way = chance.randrange(10)
        if way < 5:
            size = chance.choice([2, 2, 2, 5, 5, 6, 6, 6, chance.randrange(21)])
            segment = [chance.randrange(6), chance.randrange(12)] + [chance_number(chance) for _ in range(18)]
            if chance.randrange(8) == 0:
                segment[chance.randrange(6)] = chance.choice([LAST_LINE, LAST_LINE + 1, MOST, MOST + 1, HUGE])
            return add(k, *segment[:size])
        if way == 5:
            text = plain_text([segment for segment in chance_map(chance, 6) if segment[0] < 4])
            return read(k, spoiled(chance, text) if chance.randrange(2) else text)
        if way == 6:
            return count(k)
        if way == 7:
            return get(k, chance.choice([0, 1, 2, 3, 5, 8, HUGE]))
        return write(k)

    def test_many_lists_of_calls(self):
        chance = random.Random(10)
        seen = {}
        for _ in range(1500):
            calls = [self.chance_call(chance) for _ in range(chance.randrange(1, 61))]
            if sum(len(call) for call in calls) > 6000:
                continue
            told = ask(*calls)
            self.assertEqual(told, plain_ask(*calls))
            for call, row in zip(calls, told):
                seen[(call[0], min(row[0], 1))] = True
        for call_and_answer in ((0, 0), (0, -1), (0, -2), (1, 1), (1, -3), (1, -1), (2, 1), (3, 1), (4, 0), (4, 1)):
            self.assertIn(call_and_answer, seen)

    def test_lists_near_the_greatest_number_of_segments(self):
        chance = random.Random(11)
        for many in (197, 198, 199, 200, 201):
            for _ in range(4):
                calls = [read(1, b",".join([b"A"] + [b"C"] * (many - 1)))]
                calls += [add(1, 0, chance.randrange(195, 206)) for _ in range(12)]
                calls += [count(1), get(1, 199), get(1, 200), write(1)]
                self.assertEqual(ask(*calls), plain_ask(*calls))
