"""What holds of all calls: maps' numbers, maps apart, the form of answers, nothing changed and nothing kept."""

import contextlib
import io
import sys
import unittest

from helper import (HUGE, Unchanging, add, append, ask, ask_and_show, at, back, clear, count, get, join,
                    line_of_segments, read, text_answer, write)
from wheremaps.maps import UnknownCall, answers


class MapNumbers(unittest.TestCase):
    def test_3_is_a_map_and_4_is_none(self):
        self.assertEqual(ask(add(3, 0, 0), read(3, b"A,C"), write(3), count(3), get(3, 1)),
                         [[0], [2], [3, *b"A,C"], [2], [1, 0, 1]])
        for k in (4, 5, 200, HUGE):
            for call in (add(k, 0, 0), read(k, b"A,C"), read(k, b""), write(k), count(k), get(k, 0), get(k, HUGE),
                         at(k, 0, 0), at(k, HUGE, HUGE), back(k, 0, 0, 0), back(k, HUGE, HUGE, HUGE),
                         join(k, 0, 0, 0, 0), join(k, HUGE, HUGE, HUGE, HUGE), append(k, 0, 0, 0, 0, 0),
                         append(k, HUGE, HUGE, HUGE, HUGE, HUGE), clear(k)):
                self.assertEqual(ask(call), [[-1]])

    def test_3_is_a_map_for_the_later_calls_too(self):
        told, maps = ask_and_show(add(3, 0, 5, 1, 0, 5), at(3, 0, 6), back(3, 1, 0, 6), append(3, 3, 1, 0, 0, 0),
                                  join(3, 3, 1, 2, 0), append(0, 3, 0, 0, 0, 0), join(0, 3, 3, 0, 0), clear(3))
        self.assertEqual(told, [[0], [1, 0, 5, 1, 0, 5], [1, 0, 5, 1, 0, 5], [0], [0], [0], [0], [0]])
        self.assertEqual(maps, [[(0, 5, 3, 0, 5), (1, 5, 3, 0, 5)], [], [], []])

    def test_the_second_map_of_join_and_append(self):
        for j in (4, 5, 200, HUGE):
            for k in (0, 3, 4, HUGE):
                for more in (0, HUGE):
                    self.assertEqual(ask(join(k, j, more, more, more), append(k, j, more, more, more, more)),
                                     [[-1], [-1]])

    def test_the_second_map_of_join_and_append_may_be_any_of_four(self):
        for j in range(4):
            for k in range(4):
                self.assertEqual(ask(join(k, j, 0, 0, 0), append(k, j, 0, 0, 0, 0)), [[0], [0]])

    def test_it_is_refused_before_what_join_and_append_refuse(self):
        full = read(0, line_of_segments(200))
        for k, j in ((0, 4), (4, 0), (4, 4), (0, HUGE), (HUGE, 0), (HUGE, HUGE)):
            told, maps = ask_and_show(full, add(1, 0, 0, 0, 0, 0), join(k, j, 0, HUGE, HUGE),
                                      append(k, j, 0, 0, 0, 0), append(k, j, 1, 0, HUGE, HUGE), count(0))
            self.assertEqual(told, [[200], [0], [-1], [-1], [-1], [200]])
            self.assertEqual(maps[1], [(0, 0, 0, 0, 0)])

    def test_it_is_refused_before_all_else(self):
        full = read(0, line_of_segments(200))
        for k in (4, HUGE):
            self.assertEqual(ask(full, add(k, 0), add(k, 0, 0), read(k, b"B"), read(k, line_of_segments(201)), count(0)),
                             [[200], [-1], [-1], [-1], [-1], [200]])

    def test_what_stands_behind_a_refused_call_is_answered(self):
        self.assertEqual(ask(add(4, 2, 0, 9, 9, 9), read(9, b"\3\0\3\0"), get(4, 3), write(HUGE), add(0, 1, 1), count(0)),
                         [[-1], [-1], [-1], [-1], [0], [1]])
        self.assertEqual(ask(at(4, 3, 0), back(4, 3, 3, 0), join(4, 0, 3, 3, 0), join(0, 4, 3, 3, 0),
                             append(4, 0, 3, 0, 3, 0), append(0, 4, 3, 0, 3, 0), clear(4), add(0, 1, 1), count(0)),
                         [[-1]] * 7 + [[0], [1]])


class MapsApart(unittest.TestCase):
    def test_each_holds_its_own(self):
        texts = [b"A", b"C,C", b";A,C,C", b""]
        calls = [read(k, text) for k, text in enumerate(texts)]
        calls += [write(k) for k in range(4)] + [add(1, 7, 7), read(2, b",")]
        calls += [count(k) for k in range(4)]
        self.assertEqual(ask(*calls), [[1], [2], [3], [0]] + [text_answer(text) for text in texts]
                         + [[0], [-3, 0], [1], [3], [3], [0]])

    def test_the_same_text_in_two_maps(self):
        self.assertEqual(ask(read(0, b"A"), read(1, b"A"), add(0, 0, 1), count(0), count(1)), [[1], [1], [0], [2], [1]])

    def test_all_are_empty_at_the_beginning(self):
        for k in range(4):
            self.assertEqual(ask(count(k), get(k, 0), write(k)), [[0], [0], [0]])


class Form(unittest.TestCase):
    def test_the_whole_list(self):
        calls = [0, 0, 2, 1, 5, 0, 0, 5, 1, 6, 7, 8, 9, 2, 0, 3, 0, 4, 0, 1, 4, 0, 2, 1, 0, 2, 65, 44, 1, 9, 0, 0, 0, 0]
        told = [1, 0, 1, 0, 8, 7, 59, 75, 44, 67, 79, 81, 83, 1, 2, 6, 1, 1, 6, 7, 8, 9, 1, 0, 2, -3, 2, 1, -1, 1, -1]
        self.assertEqual(answers(calls), told)

    def test_the_whole_list_of_the_later_calls(self):
        calls = [0, 0, 6, 0, 4, 1, 2, 3, 9, 0, 1, 5, 2, 3, 7, 8, 6, 5, 0, 0, 4, 5, 0, 1, 0, 6, 0, 1, 2, 3, 6, 0, 1, 2, 2,
                 7, 0, 1, 1, 1, 1, 5, 0, 0, 9, 8, 0, 1, 2, 0, 0, 0, 5, 0, 4, 3, 8, 0, 1, 2, 0, 0, 0, 7, 0, 0, 7, 4294967296,
                 0, 9, 0, 5, 0, 4, 3, 3, 0, 3, 1]
        told = [1, 0, 1, 0, 7, 1, 0, 4, 1, 2, 3, 9, 1, 0, 7, 1, 0, 4, 1, 2, 3, 9, 1, 0,
                1, 0, 7, 1, 0, 4, 8, 8, 6, 9, 1, 0, 6, 1, 4, 3, 7, 8, 6, 1, -2, 1, 0, 1, 0, 1, 0, 1, 0, 1, 1]
        self.assertEqual(answers(calls), told)

    def test_a_refusal_is_one_number_but_for_wrong_texts(self):
        self.assertEqual(answers([2, 4, 0, 0, 0, 1, 0, 2, 65, 44]), [1, -1, 1, -1, 2, -3, 2])
        self.assertEqual(answers([0, 0, 5, 0, 0, 0, 0, 0, 7, 0, 0, 0, HUGE, 0, 8, 0, 0, 0, 0, 0, 0, 8, 0, 0, 1, 0, HUGE, 0]),
                         [1, 0, 1, -6, 1, -2, 1, -6])

    def test_write_tells_how_many_bytes(self):
        self.assertEqual(answers([2, 0, 1, 0, 2, 59, 67, 2, 0]), [1, 0, 1, 1, 3, 2, 59, 67])

    def test_60_calls(self):
        self.assertEqual(answers([3, 0] * 60), [1, 0] * 60)

    def test_calls_that_there_are_not(self):
        for number in (10, 11, HUGE, -1):
            with self.assertRaises(UnknownCall):
                answers([number, 0])


class NothingChangedAndNothingKept(unittest.TestCase):
    CALLS = [*add(0, 1, 2), *add(0, 1, 2), *read(1, b"A,CCCCC;"), *read(1, b"A,"), *write(1), *count(0), *get(1, 1),
             *at(1, 0, 3), *back(1, 1, 1, 1), *append(0, 1, 2, 1, 1, 1), *append(0, 1, 2, 1, 1, 1), *join(0, 1, 2, 1, 1),
             *join(1, 1, 1, 0, 0), *join(0, 0, 2, HUGE, HUGE), *append(2, 0, 0, 0, 0, 0), *clear(0), *write(2)]

    def test_what_is_handed_in_is_as_it_was(self):
        calls = list(self.CALLS)
        answers(calls)
        self.assertEqual(calls, self.CALLS)
        self.assertEqual(answers(Unchanging(self.CALLS)), answers(calls))

    def test_each_time_is_the_first(self):
        first = answers(list(self.CALLS))
        other = answers([*count(0), *count(1), *count(2), *write(1), *add(0, 0, 0), *get(1, 0), *at(2, 2, 2),
                         *append(1, 2, 0, 0, 0, 0), *count(1)])
        self.assertEqual(other, [1, 0] * 9)
        self.assertEqual(answers(list(self.CALLS)), first)

    def test_also_behind_one_that_failed(self):
        with self.assertRaises(UnknownCall):
            answers([*read(0, b"A,C"), *append(1, 0, 0, 0, 0, 0), 10])
        self.assertEqual(answers([*count(0), *count(1)]), [1, 0, 1, 0])

    def test_what_was_given_back_is_the_callers(self):
        first = answers(list(self.CALLS))
        kept = list(first)
        first.clear()
        self.assertEqual(answers(list(self.CALLS)), kept)

    def test_it_prints_nothing(self):
        out = io.StringIO()
        with contextlib.redirect_stdout(out), contextlib.redirect_stderr(out):
            answers(list(self.CALLS))
        self.assertEqual(out.getvalue(), "")


class Loops(unittest.TestCase):
    def test_long_lists_need_no_deep_calls(self):
        lists = ([3, 0] * 60, read(0, b";" * 5997), read(0, b"g" * 5997), read(0, b"A;" * 2998), read(0, b"A" * 5997),
                 read(0, b"A;" * 200) + write(0), read(0, b";" * 4095 + b"A") + write(0),
                 read(0, b"AAAA" + b",CAAC" * 199) + append(1, 0, 0, 0, 0, 0) + join(1, 0, 0, 0, 0) * 40 + at(1, 0, 199)
                 + back(1, 0, 0, 199) + clear(0))
        depth = 0
        frame = sys._getframe()
        while frame is not None:
            depth += 1
            frame = frame.f_back
        usual = sys.getrecursionlimit()
        sys.setrecursionlimit(depth + 25)
        try:
            for calls in lists:
                answers(calls)
        finally:
            sys.setrecursionlimit(usual)
