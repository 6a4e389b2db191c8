"""The interface: one list in, one list out."""

import io
import unittest
from contextlib import redirect_stderr, redirect_stdout

from chipcard.desk import answers
from tests.helper import (
    ACTIVATE, OK, RESET, CardCase, add_record, calls_of, make_bytes, make_records, make_secret, near, read, read_record,
    talk, tell, write)

LINE = calls_of([make_bytes(1, 4, 1), write(0, [1, 2, 3, 4]), read(0, 0), RESET, make_secret(1), tell(1), ACTIVATE])


class Interface(unittest.TestCase):
    def test_empty(self):
        self.assertEqual(answers([]), [])

    def test_how_an_answer_stands(self):
        self.assertEqual(answers([2]), [1, 0])
        self.assertEqual(answers([1, 0]), [3, 2, 0x67, 0])
        self.assertEqual(answers([1, 3, 0, 0x44, 0]), [3, 2, 0x67, 0])
        self.assertEqual(answers([1, 4, 0, 0x44, 0, 0]), [3, 2, 0x90, 0])
        self.assertEqual(answers([1, 8, 0, 0xA4, 0, 0, 2, 0x3F, 0, 0]),
                         [16, 15, 0x62, 11, 0x82, 1, 0x38, 0x83, 2, 0x3F, 0, 0x8C, 2, 0, 0, 0x90, 0])

    def test_several_behind_one_another(self):
        calls = [2, 1, 4, 0, 0x44, 0, 0, 1, 0, 2, 2, 1, 4, 0, 0x44, 0, 0, 1, 1, 2, 1, 2, 1, 2]
        self.assertEqual(answers(calls), [1, 0, 3, 2, 0x90, 0, 3, 2, 0x67, 0, 1, 0, 1, 0, 3, 2, 0x69, 0x85,
                                          3, 2, 0x67, 0, 3, 2, 0x67, 0])

    def test_the_most_that_is_told(self):
        self.assertEqual(answers(calls_of([make_bytes(1, 300), read(0, 0)])),
                         [3, 2, 0x90, 0, 259, 258] + [0] * 256 + [0x90, 0])

    def test_the_longest_command(self):
        self.assertEqual(answers([1, 261, 0, 0xFF, 0, 0, 255] + [1] * 256), [3, 2, 0x6D, 0])
        self.assertEqual(answers([1, 260, 0, 0xFF, 0, 0, 255] + [1] * 255 + [2]), [3, 2, 0x6D, 0, 1, 0])

    def test_more_bytes_than_a_command_has(self):
        self.assertEqual(answers([1, 262] + [0] * 262 + [2]), [1, -1, 1, 0])
        self.assertEqual(answers([1, 300, 0, 0x44, 0, 0] + [0] * 296 + [1, 4, 0, 0x44, 0, 0]),
                         [1, -1, 3, 2, 0x90, 0])

    def test_300_calls(self):
        self.assertEqual(answers([2] * 300), [1, 0] * 300)
        steps = [make_records(1, 1, 255)] + [add_record([many]) for many in range(255)]
        steps += [read_record(number) for number in range(212, 256)]
        self.assertEqual(len(steps), 300)
        self.assertEqual(talk(*steps), [(OK, [])] * 256 + [(OK, [number - 1]) for number in range(212, 256)])

    def test_300_long_commands(self):
        calls = [1, 260, 0, 0xD6, 0, 0, 255] + [9] * 255
        self.assertEqual(answers(calls * 300), [3, 2, 0x69, 0x86] * 300)

    def test_what_is_handed_in_stays(self):
        for calls in ([], [2], [1, 0], list(LINE), calls_of([make_records(1, 2, 2), add_record([1, 2])])):
            before = list(calls)
            answers(calls)
            self.assertEqual(calls, before)

    def test_a_second_time_answers_like_the_first(self):
        first = answers(LINE)
        self.assertEqual(answers(LINE), first)
        answers(calls_of([ACTIVATE, make_bytes(1, 9)]))
        self.assertEqual(answers(LINE), first)

    def test_nothing_is_kept_of_another_line(self):
        answers(LINE)
        self.assertEqual(talk(near(1)), [(0x6A82, [])])
        self.assertEqual(talk(make_secret(1)), [(OK, [])])
        self.assertEqual(talk(tell(1)), [(0x6A88, [])])
        self.assertEqual(talk(ACTIVATE), [(OK, [])])

    def test_what_is_given_back_is_a_list_of_its_own(self):
        first = answers(LINE)
        kept = list(first)
        first.append(5)
        first[0] = 9
        self.assertEqual(answers(LINE), kept)

    def test_kinds(self):
        given_back = answers(LINE)
        self.assertIs(type(given_back), list)
        for number in given_back:
            self.assertIs(type(number), int)

    def test_it_prints_nothing(self):
        out = io.StringIO()
        err = io.StringIO()
        with redirect_stdout(out), redirect_stderr(err):
            answers(LINE)
        self.assertEqual((out.getvalue(), err.getvalue()), ("", ""))


class WhatIsTold(CardCase):
    def test_a_file_does_not_change_with_what_it_was_written_from(self):
        data = [1, 2, 3, 4]
        self.goes((make_bytes(1, 4), OK), (write(0, data), OK), (read(0, 0), (OK, data)), (write(0, [9]), OK),
                  (read(0, 0), (OK, [9, 2, 3, 4])))
