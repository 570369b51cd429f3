"""Faults: which one is told, with its place, whose code it is, its byte and the count; and that nothing stays."""

import unittest

from tests.helper import (CALL, EIF, ENDF, FDEF, IF, JUMP, LOOPCALL, answer_of_shape, font, function, init, points,
                          push, setting, shape, size, told, values)

NO_INSTRUCTION = ([0x28, 0x4F, 0x7B, 0x83, 0x84, 0x89, 0x8F] + list(range(0x90, 0xB0)))
DOT = (0, 0, 0)


def in_font(code, *others):
    return told(init(64, 2, 2), values([1, 2]), *others, font(code))[-1]


def in_size(code):
    return told(init(64, 2, 2), values([1, 2]), font(function(0, [])), size(1, code))[-1]


def in_shape(code):
    return answer_of_shape([DOT], code, [0], font_code=function(0, []), cells=2, controls=[1, 2], twilight=2)


def in_function_of_size(body):
    return told(init(64, 2, 2), values([1, 2]), font(function(0, []) + function(1, body)),
                size(1, [EIF] + push(1) + [CALL]))[-1]


def in_function_of_shape(body):
    return answer_of_shape([DOT], [EIF] + push(1) + [CALL], [0], font_code=function(0, []) + function(1, body))


# One program for each fault that behaves alike everywhere: its code, the fault, its place, and how many before it.
EVERYWHERE = (
    ([EIF, 0x21], 1, 1, 1),
    ([0x40, 128] + [0] * 128 + [0x24], 2, 130, 1),
    (push(2) + [0x43], 3, 3, 1),
    (push(0) + [IF], 4, 3, 1),
    (push(9, 0) + [0x62], 8, 6, 2),
    ([EIF, EIF, 0x28], 5, 2, 2),
)


class ToldEverywhere(unittest.TestCase):
    def test_in_each_program(self):
        for run, whose in ((in_font, 1), (in_size, 0), (in_shape, 0)):
            for code, number, place, count in EVERYWHERE:
                self.assertEqual(run(code), [-5, number, place, whose, code[place], count])

    def test_in_functions(self):
        # The function begins at place 9 of the font's code, with three instructions carried out before.
        for run in (in_function_of_size, in_function_of_shape):
            for code, number, place, count in EVERYWHERE:
                if number != 4:
                    self.assertEqual(run(code), [-5, number, place + 9, 1, code[place], count + 3])

    def test_in_functions_of_the_font(self):
        for code, number, place, count in EVERYWHERE:
            if number != 4:
                found = in_font(function(1, code) + push(1) + [CALL])
                self.assertEqual(found, [-5, number, place + 4, 1, code[place], count + 4])

    def test_code_ends_within_an_instruction(self):
        for run, whose in ((in_font, 1), (in_size, 0), (in_shape, 0)):
            self.assertEqual(run([EIF, 0xB1, 5]), [-5, 4, 1, whose, 0xB1, 1])

    def test_function_ends(self):
        for run, whose in ((in_font, 1), (in_size, 0), (in_shape, 0)):
            self.assertEqual(run([EIF, ENDF]), [-5, 6, 1, whose, ENDF, 1])

    def test_every_byte_that_is_no_instruction(self):
        for byte in range(256):
            number = 5 if byte in NO_INSTRUCTION else 0
            for run, whose in ((in_font, 1), (in_size, 0), (in_shape, 0)):
                found = run([byte])
                self.assertEqual(found[1:2] == [5], number == 5 or (byte == FDEF and whose == 0), hex(byte))
                if number == 5:
                    self.assertEqual(found, [-5, 5, 0, whose, byte, 0])

    def test_the_first_fault_is_told(self):
        self.assertEqual(in_shape([EIF, 0x28, 0x21]), [-5, 5, 1, 0, 0x28, 1])


class Order(unittest.TestCase):
    """Behind 5,000 instructions, and without; of several faults of one instruction the first in order is told."""

    # The function has four instructions; 1,249 times and the three of the call make 4,999.
    FONT = function(0, [EIF, EIF, EIF])

    def behind(self, count, code):
        """A shape's answer where so many instructions (4,999 at least) come before the code."""
        before = push(1249, 0) + [LOOPCALL] + [EIF] * (count - 4999)
        answer = answer_of_shape([DOT], before + code, font_code=self.FONT)
        return answer, len(before)

    def test_five_thousand(self):
        self.assertEqual(self.behind(4999, [])[0], [0])
        self.assertEqual(self.behind(4999, [EIF])[0], [0])
        self.assertEqual(self.behind(5000, [])[0], [0])
        for code in ([EIF], [0x28], [0xB0], [0x40], [0x21], [ENDF], [FDEF], push(0)):
            answer, place = self.behind(5000, code)
            self.assertEqual(answer, [-5, 7, place, 0, code[0], 5000])

    def test_each_before_the_limit(self):
        for code, number in (([0x28], 5), ([0xB0], 4), ([0x21], 1), ([ENDF], 6), ([FDEF], 5)):
            answer, place = self.behind(4999, code)
            self.assertEqual(answer, [-5, number, place, 0, code[0], 4999])

    def test_at_a_codes_end_within_a_function_the_limit_is_not_asked(self):
        # Function 1 leaps to its code's end: four instructions more.
        code = self.FONT + function(1, push(2) + [JUMP])
        before = push(1248, 0) + [LOOPCALL, EIF]
        answer = answer_of_shape([], before + push(1) + [CALL], font_code=code)
        self.assertEqual(answer, [-5, 4, len(code), 1, 0, 5000])
        answer = answer_of_shape([], before + [EIF] + push(1) + [CALL], font_code=code)
        self.assertEqual(answer, [-5, 7, len(code) - 2, 1, JUMP, 5000])

    def test_within_a_function(self):
        answer = answer_of_shape([], push(1250, 0) + [LOOPCALL], font_code=self.FONT)
        self.assertEqual(answer, [-5, 7, 5, 1, EIF, 5000])

    def test_the_count_is_new_with_each_program(self):
        code = push(1249, 0) + [LOOPCALL, EIF]
        found = told(init(64), font(self.FONT), size(1, code), shape([], [], code), shape([], [], code), size(1, code))
        self.assertEqual(found, [[0]] * 6)

    def test_no_instruction_before_all_else(self):
        self.assertEqual(in_size([FDEF])[1], 5)
        self.assertEqual(in_size(push(256) + [FDEF])[1], 5)

    def test_own_bytes_before_room(self):
        self.assertEqual(in_shape([0x40, 128] + [0] * 128 + [0xB1, 0])[1], 4)
        self.assertEqual(in_shape([0x40, 129] + [0] * 128)[1], 4)
        self.assertEqual(in_shape([0x40, 128] + [0] * 128 + [0xB0, 0])[1], 2)

    def test_too_few_before_ranges(self):
        for code in (push(9) + [0x42], push(9) + [0x44], push(9) + [0x06], push(9) + [0x48], push(9) + [0x49],
                     push(9) + [0x81], push(9) + [0x3E], push(9) + [0xE0], push(9) + [0x3A], push(9) + [0x27],
                     push(9, 9, 9, 9) + [0x0F], push(9, 1) + [0x5D], push(9, 1) + [0x73], push(9) + [0x10, 0x3C],
                     push(9) + [0x12, 0x32], push(9) + [0x11, 0x39], push(9) + [0x11, 0x35], push(9) + [0x12, 0x36],
                     push(9) + [LOOPCALL], push(9) + [0x38], push(0) + [0x62]):
            self.assertEqual(in_shape(code)[1], 1, code)

    def test_function_number_before_function_under_way(self):
        self.assertEqual(in_font(function(0, push(256, -7) + [JUMP]) + push(0) + [CALL])[1], 3)

    def test_search_ends_with_what_comes_first(self):
        self.assertEqual(in_font(push(0) + [FDEF, FDEF])[1], 6)
        self.assertEqual(in_font(push(0) + [FDEF, 0xB0])[1], 4)


class NeverEnding(unittest.TestCase):
    def test_a_jump_back(self):
        for run, whose in ((in_font, 1), (in_size, 0), (in_shape, 0)):
            self.assertEqual(run(push(-3) + [JUMP]), [-5, 7, 0, whose, 0xB8, 5000])
            self.assertEqual(run([EIF] + push(-3) + [JUMP]), [-5, 7, 4, whose, JUMP, 5000])
            self.assertEqual(run([EIF] + push(-4) + [JUMP]), [-5, 7, 4, whose, JUMP, 5000])

    def test_a_function_that_calls_itself(self):
        self.assertEqual(in_function_of_shape(push(1) + [CALL])[1], 6)

    def test_a_function_that_runs_for_ever(self):
        found = in_function_of_shape(push(-3) + [JUMP])
        self.assertEqual(found, [-5, 7, 12, 1, JUMP, 5000])

    def test_as_often_as_a_number_can_say(self):
        found = answer_of_shape([], push(32767, 0) + [LOOPCALL], font_code=function(0, []))
        self.assertEqual(found, [-5, 7, 4, 1, ENDF, 5000])

    def test_what_fills_the_stack(self):
        self.assertEqual(in_shape([0x24] + push(-4) + [JUMP]), [-5, 2, 1, 0, 0xB8, 382])

    def test_long_branches(self):
        self.assertEqual(in_shape(push(0) + [IF] + [IF, EIF] * 900 + [EIF] + push(-1808) + [JUMP])[1], 7)


class AsIfNeverBegun(unittest.TestCase):
    """After each fault, and each refusal, old size, old shape, font and values stand as before."""

    WILD = (push(0, 11) + [0x42] + push(0, 12) + [0x44] + push(13) + [0x1A, 0x4E] + push(0) + [0x16]
            + push(0, 14) + [0x48] + push(1, 1) + [0x8E] + push(1, 2) + [0x8E])
    READ = (push(0, 0) + [0x43, 0x48] + push(1, 0) + [0x45, 0x48] + push(2) + [0xC8] + push(0) + [CALL])

    def begin(self):
        return setting(twilight=1, cells=1, controls=[5], font_code=function(0, push(3, 99) + [0x48]),
                       size_code=push(0, 7) + [0x42]) + [shape([(1, 2, 1)])]

    def check(self, refused, number):
        found = told(*self.begin(), refused, points(0), points(1), shape([DOT] * 4, [], self.READ), points(1), points(0))
        self.assertEqual(found[5][:len(number)], number)
        self.assertEqual(found[6:], [[0, 1, 0, 0, 0], [0, 1, 1, 2, 1], [0],
                                     [0, 4, 7, 0, 2, 5, 0, 2, 71, 0, 2, 99, 0, 2], [0, 1, 0, 0, 0]])

    def test_faults(self):
        for end, number in (([0x22, 0x21], 1), ([0x40, 129] + [0] * 129, 2), (push(9) + [0x43], 3), ([0xB0], 4),
                            ([0x28], 5), ([ENDF], 6), (push(-3) + [JUMP], 7), (push(0, 0) + [0x62], 8)):
            self.check(font(self.WILD + end), [-5, number])
            self.check(font(function(0, []) + function(1, []) + end), [-5, number])
            self.check(size(2, self.WILD + end), [-5, number])
            self.check(shape([DOT], [], self.WILD + end), [-5, number])

    def test_refusals(self):
        for refused in (init(15), init(64, 17), init(64, 1, 65), values([1] * 65), font([EIF] * 2049), size(0),
                        size(1001), size(1, [EIF] * 2049), shape([DOT] * 65), shape([DOT], [1]),
                        shape([DOT] * 9, range(9)), shape([], [], [EIF] * 2049), points(2)):
            self.check(refused, [-1])


if __name__ == "__main__":
    unittest.main()
