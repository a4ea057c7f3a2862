"""read: right texts, every way in which a text goes wrong, and its refusals."""

import unittest

from helper import (DIGITS, LAST_LINE, MOST, add, ask, count, get, line_of_segments, plain_number, read, right_bytes,
                    text_answer, write)


def read_segments(text):
    """The segments that are held when a text was read, at most 59 of them."""
    many = ask(read(0, text))[0]
    if len(many) != 1 or many[0] < 0:
        raise AssertionError(f"refused: {many}")
    return [tuple(row[1:]) for row in ask(read(0, text), *[get(0, i) for i in range(many[0])])[1:]]


class RightTexts(unittest.TestCase):
    def test_the_empty_text(self):
        self.assertEqual(ask(read(0, b""), count(0)), [[0], [0]])

    def test_nothing_but_line_ends(self):
        for many in (1, 2, 100, 4094, 4095, 4096, 4097, 5990):
            self.assertEqual(ask(read(0, b";" * many), count(0), write(0)), [[0], [0], [0]])

    def test_a_segment_behind_many_line_ends(self):
        self.assertEqual(read_segments(b";" * 4094 + b"C"), [(4094, 1)])
        self.assertEqual(read_segments(b";" * 4095 + b"C"), [(LAST_LINE, 1)])
        self.assertEqual(ask(read(0, b";" * 4096 + b"C"), count(0)), [[-3, 4096], [0]])
        self.assertEqual(ask(read(0, b";" * 5000 + b"C;"), count(0)), [[-3, 5000], [0]])

    def test_line_ends_behind_the_last_line(self):
        self.assertEqual(read_segments(b";" * 4095 + b"C,C;;;"), [(LAST_LINE, 1), (LAST_LINE, 2)])
        self.assertEqual(read_segments(b"A" + b";" * 5000), [(0, 0)])
        self.assertEqual(ask(read(0, b"A" + b";" * 5000 + b"A")), [[-3, 5001]])

    def test_numbers(self):
        for digits, number in ((b"A", 0), (b"C", 1), (b"E", 2), (b"e", 15), (b"gB", 16), (b"iB", 17), (b"+B", 31),
                               (b"gC", 32), (b"+f", 511), (b"ggB", 512), (b"w+B", 1000), (b"+/////D", MOST)):
            self.assertEqual(read_segments(digits), [(0, number)])

    def test_steps_down(self):
        for digits, step in ((b"D", 1), (b"F", 2), (b"f", 15), (b"hB", 16), (b"jB", 17), (b"hgB", 512),
                             (b"//////D", MOST)):
            self.assertEqual(read_segments(b"A+/////DAA,C" + digits + b"AA"),
                             [(0, 0, MOST, 0, 0), (0, 1, MOST - step, 0, 0)])

    def test_segments_with_and_without_origin_and_name_over_lines(self):
        self.assertEqual(read_segments(b"C,CCEG;;A,EDAAC;E;;KCCCD,C,CAAAE;;"),
                         [(0, 1), (0, 2, 1, 2, 3), (2, 0), (2, 2, 0, 2, 3, 1), (3, 2), (5, 5, 1, 3, 4, 0), (5, 6),
                          (5, 7, 1, 3, 4, 2)])

    def test_the_greatest_steps(self):
        text = b"AAAAA," + b"+/////D" * 5 + b";A" + b"//////D" * 4 + b",+/////D"
        self.assertEqual(read_segments(text),
                         [(0, 0, 0, 0, 0, 0), (0, MOST, MOST, MOST, MOST, MOST), (1, 0, 0, 0, 0, 0), (1, MOST)])

    def test_a_second_read_in_the_place_of_the_first(self):
        self.assertEqual(ask(read(0, b"A,C,C"), read(0, b";;CAAA"), count(0), get(0, 0), get(0, 1), read(0, b""),
                             count(0)),
                         [[3], [1], [1], [1, 2, 1, 0, 0, 0], [0], [0], [0]])

    def test_it_is_read_as_from_the_beginning(self):
        self.assertEqual(ask(add(0, 9, 9, 9, 9, 9, 9), read(0, b"CCCCC"), get(0, 0)), [[0], [1], [1, 0, 1, 1, 1, 1, 1]])


class WrongTexts(unittest.TestCase):
    def check(self, text, right):
        """The text goes wrong behind so many bytes, by itself and by the plain reading, and nothing is changed."""
        with self.subTest(text=text):
            self.assertEqual(right_bytes(text), right)
            before = b"CCCCC;C"
            self.assertEqual(ask(read(0, before), read(0, text), write(0), count(0)),
                             [[2], [-3, right], text_answer(before), [2]])

    def check_segment(self, segment):
        """The segment is wrong wherever it stands, with whatever behind it."""
        for before in (b"", b";", b"A,", b"AAAAA,", b"A;", b";;;", b"A;C,", b";A;;"):
            for behind in (b"", b";", b",", b",C", b";A", b";;", b",,"):
                self.check(before + segment + behind, len(before))

    def test_bytes_that_are_no_digits(self):
        for byte in range(256):
            if byte not in DIGITS + b",;":
                for text, right in ((bytes([byte]), 0), (b"A" + bytes([byte]), 0), (b"A,C" + bytes([byte]), 2),
                                    (bytes([byte]) + b"A", 0), (b";;g" + bytes([byte]) + b"B,A", 2)):
                    self.assertEqual(ask(read(0, text)), [[-3, right]])
        for byte in (b"-", b"_", b"=", b" ", b"\n", b"\0", b"\xff", b"@", b"[", b"`", b"{", b":", b".", b"*"):
            self.check_segment(byte)
            self.check_segment(b"A" + byte)
            self.check_segment(b"AAA" + byte + b"A")

    def test_no_byte_is_taken_for_a_digit(self):
        """Where a step by any one digit would be right, first or last in its number, only digits are."""
        before = b"A" + b"gggB" * 4 + b","
        refused = [-3, len(before)]
        for byte in range(256):
            sign = bytes([byte])
            told = ask(read(0, before + b"C" + sign + b"AA"), read(0, before + b"CA" + sign + b"CA"))
            if byte not in DIGITS + b",;" or sign == b"B":
                self.assertEqual(told, [refused, refused], sign)
            elif byte in DIGITS[:32]:
                self.assertEqual(told, [[2], [2]], sign)
            elif byte in DIGITS[32:]:
                self.assertEqual(told, [refused, [2]], sign)

    def test_digits_that_are_not_as_few_as_there_can_be(self):
        for segment in (b"gA", b"iA", b"hA", b"ggA", b"gBAAgA", b"AAAgA", b"AAAAgggA", b"/A", b"igA", b"+/////DgA"):
            self.check_segment(segment)

    def test_no_digit_behind_one_that_says_more_follow(self):
        for segment in (b"g", b"gg", b"/", b"AAAg", b"AAAAg", b"AAA/", b"AAAAAg"):
            self.check_segment(segment)

    def test_there_is_no_such_number_as_B(self):
        for segment in (b"B", b"BAAA", b"ABAA", b"AABA", b"AAAB", b"AAAAB", b"CB"):
            self.check_segment(segment)

    def test_how_many_numbers_a_segment_has(self):
        for segment in (b"AA", b"AAA", b"CC", b"CCC", b"AAAAAA", b"AAAAAAA", b"CCCCCC", b"gBgB", b"A" * 20):
            self.check_segment(segment)

    def test_numbers_below_0(self):
        for segment in (b"D", b"DAAA", b"ADAA", b"AADA", b"AAAD", b"AAAAD", b"A//////DAA"):
            self.check_segment(segment)
        for segment in (b"CFAA", b"CAFA", b"CAAF", b"CAAAF"):
            self.check(b"ACCCC," + segment, 6)
            self.check(b"ACCCC;C;" + segment, 8)
        for segment in (b"CDAA", b"CADA", b"CAAD", b"CAAAD"):
            self.assertEqual(ask(read(0, b"ACCCC," + segment)), [[2]])

    def test_numbers_above_their_bounds(self):
        above = plain_number(MOST + 1)
        self.assertEqual(above, b"ggggggE")
        for number in (above, plain_number(2 ** 40), plain_number(2 ** 64), plain_number(2 ** 200)):
            for segment in (number, b"A" + number + b"AA", b"AA" + number + b"A", b"AAA" + number, b"AAAA" + number):
                self.check_segment(segment)
        most = plain_number(MOST)
        full = b"A" + most * 4
        for segment in (b"CCAA", b"CACA", b"CAAC", b"CAAAC"):
            self.check(full + b"," + segment, len(full) + 1)
            self.check(full + b";" + segment, len(full) + 1)
        self.check(most + b",C", len(most) + 1)
        self.check(b"C," + most, 2)
        self.assertEqual(ask(read(0, b"C," + plain_number(MOST - 1))), [[2]])

    def test_a_segment_that_is_not_behind_the_one_before_it(self):
        for before in (b"A,", b"K,", b";;K,", b"A;A,C,", b"CCCCC,"):
            for segment in (b"A", b"AAAA", b"AAAAA", b"ACCCC"):
                for behind in (b"", b",C", b";", b";A"):
                    self.check(before + segment + behind, len(before))
        for segment in (b"D", b"F", b"DAAA"):
            self.check(b"K," + segment, 2)

    def test_a_comma_where_none_may_stand(self):
        for text, right in ((b",", 0), (b",A", 0), (b",;", 0), (b",,", 0), (b";,", 1), (b";,A", 1), (b"A,", 2),
                            (b"A,;", 2), (b"A,;A", 2), (b"A;,", 2), (b"A;,A", 2), (b"A,,", 2), (b"A,,C", 2),
                            (b"A,C,", 4), (b"A,C,,C", 4), (b";;A,", 4), (b"A;;,C", 3), (b"A,C,;", 4),
                            (b"AAAA,CAAA,;AAAA", 10)):
            self.check(text, right)

    def test_the_first_of_several_ways(self):
        self.check(b"A,C;B,gA;,", 4)
        self.check(b"A,A,,", 2)

    def test_long_texts(self):
        for text, right in ((b"g" * 5990, 0), (b"A," + b"/" * 5980 + b"B", 2), (b"A" * 5990, 0), (b"," * 5990, 0),
                            (b";" * 5990 + b"A", 5990), (b"A,C" + b";C" * 2000 + b",", 4004)):
            self.assertEqual(ask(read(0, text)), [[-3, right]])


class TooManySegments(unittest.TestCase):
    def test_200_and_201(self):
        self.assertEqual(ask(read(0, line_of_segments(200)), count(0), get(0, 199)), [[200], [200], [1, 0, 199]])
        self.assertEqual(ask(read(0, b"A"), read(0, line_of_segments(201)), count(0), write(0)),
                         [[1], [-4], [1], [1, *b"A"]])

    def test_over_many_lines(self):
        self.assertEqual(ask(read(0, b"A;" * 200), count(0)), [[200], [200]])
        self.assertEqual(ask(read(0, b"A;" * 201), count(0)), [[-4], [0]])
        self.assertEqual(ask(read(0, b";" * 300 + b"A;" * 200 + b";" * 300)), [[200]])

    def test_far_more(self):
        self.assertEqual(ask(read(0, line_of_segments(2997)), count(0)), [[-4], [0]])
        self.assertEqual(ask(read(0, b"A;" * 2997), count(0)), [[-4], [0]])

    def test_a_wrong_text_is_refused_as_such_first(self):
        for many in (200, 201, 250, 1000):
            text = line_of_segments(many)
            for behind, more in ((b",", 1), (b",A", 1), (b";,", 1), (b";B", 1), (b",CC", 1), (b",C,,", 3)):
                self.assertEqual(ask(read(0, text + behind), count(0)), [[-3, len(text) + more], [0]])
        self.assertEqual(ask(read(0, b"A;" * 2500 + b"g")), [[-3, 5000]])

    def test_a_full_map_is_read_over(self):
        self.assertEqual(ask(read(0, line_of_segments(200)), read(0, line_of_segments(200) + b";"), count(0),
                             read(0, b"A"), count(0)),
                         [[200], [200], [200], [1], [1]])
