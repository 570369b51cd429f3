"""Ways through a program: branches, jumps, functions."""

import unittest

from tests.helper import (CALL, EIF, ELSE, ENDF, FDEF, IF, JUMP, LEAST, LOOPCALL, MOST, answer_of_shape, font,
                          function, init, push, size, stack_behind, told)

JUMP_IF, JUMP_IF_NOT = 0x78, 0x79


def branch(asked, first, second=None):
    return push(asked) + [IF] + first + ([] if second is None else [ELSE] + second) + [EIF]


def fault_of(code, **others):
    answer = answer_of_shape([], code, **others)
    return answer[1:] if answer[0] == -5 else []


class Branches(unittest.TestCase):
    def test_with_and_without_else(self):
        for asked in (1, -1, LEAST, 256):
            self.assertEqual(stack_behind(branch(asked, push(5)) + push(9)), [5, 9])
            self.assertEqual(stack_behind(branch(asked, push(5), push(6)) + push(9)), [5, 9])
        self.assertEqual(stack_behind(branch(0, push(5)) + push(9)), [9])
        self.assertEqual(stack_behind(branch(0, push(5), push(6)) + push(9)), [6, 9])

    def test_within_one_another(self):
        inner = branch(0, push(1), push(2))
        self.assertEqual(stack_behind(branch(0, inner, push(3))), [3])
        self.assertEqual(stack_behind(branch(0, inner)), [])
        self.assertEqual(stack_behind(branch(1, inner, push(3))), [2])
        self.assertEqual(stack_behind(branch(1, push(3), inner)), [3])
        self.assertEqual(stack_behind(branch(0, push(3), branch(1, inner, inner))), [2])
        self.assertEqual(stack_behind(branch(0, branch(0, inner, inner), inner)), [2])

    def test_an_else_passes_over_further_ones_up_to_its_eif(self):
        self.assertEqual(stack_behind(push(1) + [IF] + push(5) + [ELSE] + push(6) + [ELSE] + push(7) + [EIF]), [5])
        self.assertEqual(stack_behind(push(0) + [IF] + push(5) + [ELSE] + push(6) + [ELSE] + push(7) + [EIF]), [6])

    def test_an_else_by_itself_seeks_its_eif(self):
        self.assertEqual(stack_behind([ELSE] + push(5) + branch(1, push(6), push(7)) + [ELSE, EIF] + push(8)), [8])
        self.assertEqual(stack_behind([EIF, EIF] + push(8)), [8])

    def test_whole_instructions_are_passed_over(self):
        for hidden in ([0xB0, EIF], [0xB7] + [EIF] * 8, [0xB8, EIF, ELSE], [0xBF] + [EIF] * 16,
                       [0x40, EIF] + [EIF] * EIF, [0x40, 0], [0x41, 2, EIF, IF, ELSE, EIF], [0x41, 0]):
            self.assertEqual(stack_behind(push(0) + [IF] + hidden + [ELSE] + push(5) + [EIF]), [5])
            self.assertEqual(stack_behind(push(1) + [IF] + push(5) + [ELSE] + hidden + [EIF]), [5])

    def test_bytes_that_are_no_instruction_are_one_byte_long(self):
        for strange in (0x28, 0x4F, 0x7B, 0x83, 0x84, 0x89, 0x8F, 0x90, 0xA0, 0xAF, FDEF, ENDF):
            self.assertEqual(stack_behind(push(0) + [IF, strange, ELSE] + push(5) + [EIF]), [5])
            self.assertEqual(stack_behind([ELSE, strange, EIF] + push(5)), [5])

    def test_nothing_found(self):
        for rest in ([], [IF], [0xB0], [0xB0, EIF], [IF, EIF], [IF, ELSE, EIF], [0x41], [0x40, 2, EIF]):
            self.assertEqual(fault_of(push(0) + [IF] + rest), [4, 3, 0, IF, 1])
            self.assertEqual(fault_of([ELSE] + rest), [4, 0, 0, ELSE, 0])
        self.assertEqual(fault_of([ELSE, ELSE]), [4, 0, 0, ELSE, 0])

    def test_an_if_that_holds_seeks_nothing(self):
        self.assertEqual(fault_of(push(1) + [IF]), [])
        self.assertEqual(fault_of(push(1) + [IF, ELSE]), [4, 4, 0, ELSE, 2])
        self.assertEqual(fault_of([IF]), [1, 0, 0, IF, 0])

    def test_behind_a_last_eif_the_program_ends(self):
        self.assertEqual(stack_behind(push(7) + branch(0, [])), [7])


class Jumps(unittest.TestCase):
    def test_from_the_instructions_own_place(self):
        # From place 3 to place 7: three bytes of a push are left out.
        self.assertEqual(stack_behind(push(4) + [JUMP] + push(5) + push(6)), [6])
        self.assertEqual(stack_behind(push(1) + [JUMP] + push(5)), [5])

    def test_backward(self):
        # From place 3 to 11, from 14 to 4, from 10 to 15.
        code = push(8) + [JUMP] + push(5) + push(5) + [JUMP] + push(-10) + [JUMP] + push(9)
        self.assertEqual(stack_behind(code), [5, 9])

    def test_into_an_instructions_middle(self):
        # Place 5 is within the push: its bytes are read as instructions, 24 and 24.
        self.assertEqual(stack_behind(push(2) + [JUMP, 0xB8, 0x24, 0x24]), [0, 1])

    def test_if_and_if_not(self):
        for byte, asked, taken in ((JUMP_IF, 1, True), (JUMP_IF, LEAST, True), (JUMP_IF, 0, False),
                                   (JUMP_IF_NOT, 0, True), (JUMP_IF_NOT, 1, False), (JUMP_IF_NOT, -1, False)):
            found = stack_behind(push(4, asked) + [byte] + push(5) + push(6))
            self.assertEqual(found, [6] if taken else [5, 6])
            self.assertEqual(fault_of(push(asked) + [byte])[0], 1)

    def test_to_the_codes_ends(self):
        self.assertEqual(fault_of(push(1) + [JUMP]), [])
        self.assertEqual(fault_of(push(2) + [JUMP]), [4, 3, 0, JUMP, 1])
        self.assertEqual(fault_of(push(2) + [JUMP, EIF]), [])
        self.assertEqual(fault_of(push(-4) + [JUMP]), [4, 3, 0, JUMP, 1])
        self.assertEqual(fault_of(push(MOST) + [JUMP])[0], 4)
        self.assertEqual(fault_of(push(LEAST) + [JUMP])[0], 4)
        self.assertEqual(fault_of([JUMP]), [1, 0, 0, JUMP, 0])
        for byte, asked in ((JUMP_IF, 1), (JUMP_IF_NOT, 0)):
            self.assertEqual(fault_of(push(1, asked) + [byte]), [])
            self.assertEqual(fault_of(push(2, asked) + [byte]), [4, 6, 0, byte, 2])
            self.assertEqual(fault_of(push(-6, asked) + [byte])[0], 7)
            self.assertEqual(fault_of(push(-7, asked) + [byte]), [4, 6, 0, byte, 2])

    def test_what_is_not_taken_is_not_looked_at(self):
        self.assertEqual(fault_of(push(MOST, 0) + [JUMP_IF]), [])
        self.assertEqual(fault_of(push(MOST, 1) + [JUMP_IF_NOT]), [])


class Functions(unittest.TestCase):
    def test_once_and_often(self):
        code = function(0, push(5)) + function(255, push(6))
        self.assertEqual(stack_behind(push(0) + [CALL] + push(255) + [CALL], font_code=code), [5, 6])
        self.assertEqual(stack_behind(push(3, 0) + [LOOPCALL] + push(9), font_code=code), [5, 5, 5, 9])
        self.assertEqual(stack_behind(push(1, 255) + [LOOPCALL] + push(9), font_code=code), [6, 9])
        for number in (0, -1, LEAST):
            self.assertEqual(stack_behind(push(number, 0) + [LOOPCALL] + push(9), font_code=code), [9])

    def test_not_told(self):
        code = function(7, [])
        for number in (6, 8, 256, 263, -1, -249, LEAST, MOST):
            self.assertEqual(fault_of(push(number) + [CALL], font_code=code)[0], 3)
            self.assertEqual(fault_of(push(1, number) + [LOOPCALL], font_code=code)[0], 3)
            self.assertEqual(fault_of(push(0, number) + [LOOPCALL], font_code=code)[0], 3)
        self.assertEqual(fault_of([CALL]), [1, 0, 0, CALL, 0])
        self.assertEqual(fault_of(push(7) + [LOOPCALL], font_code=code), [1, 3, 0, LOOPCALL, 1])

    def test_numbers_of_functions(self):
        self.assertEqual(told(font(push(255) + [FDEF, ENDF])), [[0]])
        for number in (256, -1, LEAST, MOST):
            self.assertEqual(told(font(push(number) + [FDEF, ENDF]))[0][:2], [-5, 3])
        self.assertEqual(told(font([FDEF, ENDF])), [[-5, 1, 0, 1, FDEF, 0]])

    def test_told_again_the_later_place_holds(self):
        code = function(1, push(5)) + function(1, push(6))
        self.assertEqual(stack_behind(push(1) + [CALL], font_code=code), [6])

    def test_told_only_where_the_font_comes_by(self):
        code = branch(0, function(1, push(5)), function(2, push(6)))
        self.assertEqual(stack_behind(push(2) + [CALL], font_code=code), [6])
        self.assertEqual(fault_of(push(1) + [CALL], font_code=code)[0], 3)

    def test_the_fonts_own_program_calls_too(self):
        found = told(font(function(0, push(5)) + push(0) + [CALL] + push(0) + [0x62]))
        self.assertEqual(found, [[-5, 8, 15, 1, 0x62, 7]])
        self.assertEqual(told(font(push(0) + [CALL] + function(0, []))), [[-5, 3, 3, 1, CALL, 1]])

    def test_no_functions_but_in_the_font(self):
        self.assertEqual(told(size(1, push(0) + [FDEF, ENDF])), [[-5, 5, 3, 0, FDEF, 1]])
        self.assertEqual(told(size(1, [FDEF, ENDF])), [[-5, 5, 0, 0, FDEF, 0]])
        self.assertEqual(fault_of(push(0) + [FDEF, ENDF]), [5, 3, 0, FDEF, 1])

    def test_the_fonts_fdef_in_the_run_of_another_program(self):
        # The function goes back to the font's first FDEF, which is no instruction in a size's run.
        code = function(0, push(1, -7) + [JUMP])
        self.assertEqual(told(init(64), font(code), size(1, push(0) + [CALL]))[-1], [-5, 5, 3, 1, FDEF, 5])

    def test_within_a_function_none_is_told(self):
        code = function(0, push(1, -7) + [JUMP]) + push(0) + [CALL]
        self.assertEqual(told(font(code)), [[-5, 6, 3, 1, FDEF, 7]])
        code = function(0, push(256, -7) + [JUMP]) + push(0) + [CALL]
        self.assertEqual(told(font(code)), [[-5, 3, 3, 1, FDEF, 7]])

    def test_the_end_of_a_function_is_sought_by_whole_instructions(self):
        self.assertEqual(told(font(push(0) + [FDEF, 0xB0, ENDF])), [[-5, 4, 3, 1, FDEF, 1]])
        self.assertEqual(told(font(push(0) + [FDEF, IF, 0xB0, FDEF, 0x28, ELSE, ENDF])), [[0]])
        self.assertEqual(told(font(push(0) + [FDEF])), [[-5, 4, 3, 1, FDEF, 1]])
        self.assertEqual(told(font(push(0) + [FDEF, 0x40, 2, ENDF])), [[-5, 4, 3, 1, FDEF, 1]])
        self.assertEqual(told(font(push(0) + [FDEF, 0x41])), [[-5, 4, 3, 1, FDEF, 1]])
        self.assertEqual(told(font(push(0) + [FDEF, FDEF, ENDF])), [[-5, 6, 3, 1, FDEF, 1]])
        self.assertEqual(told(font(push(0) + [FDEF, FDEF])), [[-5, 6, 3, 1, FDEF, 1]])
        self.assertEqual(told(font(push(0) + [FDEF, 0xB0, FDEF, ENDF, ENDF])), [[-5, 6, 7, 1, ENDF, 2]])

    def test_an_end_without_a_function(self):
        self.assertEqual(told(font([ENDF])), [[-5, 6, 0, 1, ENDF, 0]])
        self.assertEqual(told(size(1, [ENDF])), [[-5, 6, 0, 0, ENDF, 0]])
        self.assertEqual(fault_of(push(1) + [ENDF]), [6, 3, 0, ENDF, 1])

    def test_a_function_may_go_on_behind_its_first_endf(self):
        # The function leaps from place 7 to 13; the font's own program goes on at 9 and leaps from 12 to its end.
        code = push(0) + [FDEF] + push(6) + [JUMP, ENDF] + push(5) + [JUMP] + push(8) + [ENDF]
        self.assertEqual(told(font(code)), [[0]])
        self.assertEqual(stack_behind(push(2, 0) + [LOOPCALL], font_code=code), [8, 8])

    def test_a_branch_may_lead_over_the_endf(self):
        code = push(0) + [FDEF] + push(0) + [IF, ENDF] + push(6) + [JUMP, EIF] + push(8) + [ENDF, EIF]
        self.assertEqual(told(font(code[:-1])), [[0]])
        self.assertEqual(stack_behind(push(0) + [CALL], font_code=code), [8])

    def test_eight_at_a_time(self):
        code = function(0, [])
        for number in range(1, 9):
            code += function(number, push(number - 1) + [CALL])
        self.assertEqual(fault_of(push(7) + [CALL], font_code=code), [])
        self.assertEqual(fault_of(push(8) + [CALL], font_code=code), [6, 12, 1, CALL, 17])
        self.assertEqual(fault_of(push(8) + [CALL] + push(7) + [CALL], font_code=code), [6, 12, 1, CALL, 17])

    def test_what_comes_before_the_eight(self):
        deep = function(8, push(0, 0) + [LOOPCALL])
        missing = function(8, push(1, 99) + [LOOPCALL])
        often = function(8, push(1, 0) + [LOOPCALL])
        for last, expected in ((deep, 0), (missing, 3), (often, 6)):
            code = function(0, []) + last
            for number in range(9, 16):
                code += function(number, push(number - 1) + [CALL])
            answer = fault_of(push(15) + [CALL], font_code=code)
            self.assertEqual(answer[0] if answer else 0, expected)

    def test_one_ends_before_the_next(self):
        code = function(0, []) + function(1, push(9, 0) + [LOOPCALL])
        self.assertEqual(fault_of(push(9, 1) + [LOOPCALL], font_code=code), [])

    def test_it_goes_on_behind_the_call_in_its_own_code(self):
        code = function(0, push(5)) + function(1, push(0) + [CALL] + push(6))
        self.assertEqual(stack_behind(push(2, 1) + [LOOPCALL] + push(7), font_code=code), [5, 6, 5, 6, 7])

    def test_functions_share_the_stack_and_the_state(self):
        code = function(0, [0x20, 0x60]) + function(1, [0x19])
        self.assertEqual(stack_behind(push(3, 4, 0) + [LOOPCALL], font_code=code), [48])
        self.assertEqual(stack_behind(push(1) + [CALL] + push(70) + [0x68], font_code=code), [96])


class CodesEnd(unittest.TestCase):
    def test_within_a_function(self):
        code = function(0, push(2) + [JUMP])
        self.assertEqual(len(code), 9)
        self.assertEqual(fault_of(push(0) + [CALL], font_code=code), [4, 9, 1, 0, 4])
        self.assertEqual(fault_of(push(0) + [CALL, EIF], font_code=code), [4, 9, 1, 0, 4])

    def test_the_fonts_own_end_within_a_function(self):
        code = function(0, push(6) + [JUMP]) + push(0) + [CALL]
        self.assertEqual(told(font(code)), [[-5, 4, 13, 1, 0, 6]])

    def test_a_jump_out_of_a_functions_code(self):
        code = function(0, push(3) + [JUMP])
        self.assertEqual(fault_of(push(0) + [CALL], font_code=code), [4, 7, 1, JUMP, 3])
        code = function(0, push(-8) + [JUMP])
        self.assertEqual(fault_of(push(0) + [CALL], font_code=code), [4, 7, 1, JUMP, 3])


if __name__ == "__main__":
    unittest.main()
