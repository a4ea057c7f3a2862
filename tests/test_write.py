"""write, by the document's own words and numbers."""

import unittest

from helper import DIGITS, LAST_LINE, MOST, add, ask, plain_number, read, text_answer, write


def written(*segments):
    """What write answers for a map of these segments, with the count before it taken off."""
    told = ask(*[add(0, *segment) for segment in segments], write(0))
    if told[:-1] != [[0]] * len(segments):
        raise AssertionError(f"not added: {told}")
    text = bytes(told[-1][1:])
    if told[-1] != text_answer(text):
        raise AssertionError(f"not how many bytes, and they: {told[-1]}")
    return text


class Numbers(unittest.TestCase):
    def test_the_empty_map(self):
        self.assertEqual(ask(write(0), write(3)), [[0], [0]])

    def test_numbers_from_0_up(self):
        for number, digits in ((0, b"A"), (1, b"C"), (2, b"E"), (15, b"e"), (16, b"gB"), (17, b"iB"), (31, b"+B"),
                               (32, b"gC"), (511, b"+f"), (512, b"ggB"), (1000, b"w+B"), (MOST, b"+/////D")):
            with self.subTest(number=number):
                self.assertEqual(written((0, number)), digits)

    def test_steps_down(self):
        for step, digits in ((0, b"A"), (1, b"D"), (2, b"F"), (15, b"f"), (16, b"hB"), (17, b"jB"), (512, b"hgB"),
                             (MOST, b"//////D")):
            with self.subTest(step=step):
                self.assertEqual(written((0, 0, MOST, 0, 0), (0, 1, MOST - step, 0, 0)),
                                 b"A+/////DAA,C" + digits + b"AA")

    def test_all_numbers_to_1100(self):
        used = b""
        for number in range(1100):
            digits = written((0, 0, number, 0, 0), (0, 1, 0, 0, 0))
            self.assertEqual(digits, b"A" + plain_number(number) + b"AA,C" + plain_number(-number) + b"AA")
            used += digits
        self.assertEqual(set(used), set(DIGITS + b","))

    def test_the_greatest_steps_up_and_down(self):
        self.assertEqual(written((0, 0, 0, 0, 0, 0), (0, MOST, MOST, MOST, MOST, MOST), (1, 0, 0, 0, 0, 0),
                                 (1, MOST)),
                         b"AAAAA," + b"+/////D" * 5 + b";A" + b"//////D" * 4 + b",+/////D")


class Lines(unittest.TestCase):
    def test_before_the_first(self):
        self.assertEqual(written((0, 3)), b"G")
        self.assertEqual(written((1, 3)), b";G")
        self.assertEqual(written((LAST_LINE, 0)), b";" * 4095 + b"A")

    def test_between(self):
        self.assertEqual(written((1, 3), (1, 4), (2, 4), (5, 1), (5, 3)), b";G,C;I;;;C,E")

    def test_the_col_begins_at_0_on_each_line(self):
        self.assertEqual(written((0, 5), (0, 9), (1, 9), (1, 10), (3, 0)), b"K,I;S,C;;A")

    def test_without_what_stood_behind(self):
        for behind in (b"", b";", b";;;", b";" * 5000):
            self.assertEqual(ask(read(0, b";A,C" + behind), write(0)), [[2], text_answer(b";A,C")])
            self.assertEqual(ask(read(0, behind), write(0)), [[0], [0]])


class WhatIsToldFrom(unittest.TestCase):
    def test_origins_go_on_over_lines(self):
        self.assertEqual(written((0, 0, 1, 2, 3), (0, 1, 2, 2, 2), (1, 0, 1, 3, 5), (4, 0, 1, 3, 5)),
                         b"ACEG,CCAD;ADCG;;;AAAA")

    def test_origins_go_on_over_segments_without_one(self):
        self.assertEqual(written((0, 0, 1, 2, 3), (0, 1), (1, 0), (1, 4, 2, 4, 6)), b"ACEG,C;A,ICEG")

    def test_the_first_origin_is_told_from_0(self):
        self.assertEqual(written((0, 7), (0, 8, 1, 2, 3)), b"O,CCEG")

    def test_names_go_on_over_segments_without_one(self):
        self.assertEqual(written((0, 0, 0, 0, 0, 5), (0, 1, 0, 0, 0), (1, 0), (2, 0, 0, 0, 0, 7), (2, 1, 0, 0, 0, 6)),
                         b"AAAAK,CAAA;A;AAAAE,CAAAD")

    def test_the_first_name_is_told_from_0(self):
        self.assertEqual(written((0, 0, 9, 9, 9), (0, 1, 9, 9, 9, 4)), b"ASSS,CAAAI")

    def test_the_numbers_of_an_origin_are_told_each_from_its_own(self):
        self.assertEqual(written((0, 0, 1, 2, 3, 4), (0, 10, 5, 7, 9, 11)), b"ACEGI,UIKMO")

    def test_it_changes_nothing(self):
        self.assertEqual(ask(add(0, 1, 1), write(0), write(0), add(0, 1, 2), write(0)),
                         [[0], [2, *b";C"], [2, *b";C"], [0], [4, *b";C,C"]])
