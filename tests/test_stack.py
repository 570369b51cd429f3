"""Stack, cells, control values and numbers: each instruction by what it leaves on the stack."""

import unittest

from tests.helper import LEAST, MOST, answer_of_shape, push, stack_behind, told, setting, shape, points

DOTS_40 = {"dots": 40}


def fault_number(code, **others):
    answer = answer_of_shape([(0, 0, 0)], code, **others)
    return answer[1] if answer[0] == -5 else 0


class Stacks(unittest.TestCase):
    def check(self, byte, taken, given, **others):
        """The numbers below what is taken stay as they are."""
        code = push(77, *taken) + [byte]
        self.assertEqual(stack_behind(code, **others), [77] + given, (hex(byte), taken))
        if taken:
            self.assertEqual(fault_number(push(*taken[1:]) + [byte], **others), 1, (hex(byte), taken))

    def check_all(self, byte, rows, **others):
        for row in rows:
            self.check(byte, list(row[:-1]), [row[-1]], **others)


class Pushes(Stacks):
    def test_counted_bytes(self):
        self.assertEqual(stack_behind([0x40, 0]), [])
        self.assertEqual(stack_behind([0x40, 3, 0, 128, 255]), [0, 128, 255])

    def test_counted_words(self):
        self.assertEqual(stack_behind([0x41, 0]), [])
        self.assertEqual(stack_behind([0x41, 5, 0, 0, 1, 2, 127, 255, 128, 0, 255, 255]),
                         [0, 258, 32767, -32768, -1])

    def test_bytes(self):
        for count in range(1, 9):
            row = [200 + number for number in range(count)]
            self.assertEqual(stack_behind([0xB0 + count - 1] + row), row)

    def test_words(self):
        for count in range(1, 9):
            code = [0xB8 + count - 1]
            for number in range(count):
                code += [255, number]
            self.assertEqual(stack_behind(code), [number - 256 for number in range(count)])

    def test_cut_short(self):
        for code in ([0x40], [0x41], [0x40, 1], [0x40, 3, 1, 2], [0x41, 1], [0x41, 1, 0], [0x41, 2, 0, 0, 0],
                     [0xB0], [0xB7] + [0] * 7, [0xB8], [0xB8, 0], [0xBF] + [0] * 15):
            self.assertEqual(answer_of_shape([], [0x59] + code), [-5, 4, 1, 0, code[0], 1])

    def test_as_many_as_there_is_room_for(self):
        self.assertEqual(fault_number([0x40, 128] + [0] * 128), 0)
        self.assertEqual(fault_number([0x40, 129] + [0] * 129), 2)
        self.assertEqual(fault_number([0x41, 128] + [0] * 256), 0)
        self.assertEqual(fault_number([0x41, 129] + [0] * 258), 2)
        self.assertEqual(fault_number([0x40, 127] + [0] * 127 + [0xB0, 1]), 0)
        self.assertEqual(fault_number([0x40, 127] + [0] * 127 + [0xB1, 1, 2]), 2)
        self.assertEqual(fault_number([0x40, 121] + [0] * 121 + [0xBE] + [0] * 14), 0)
        self.assertEqual(fault_number([0x40, 121] + [0] * 121 + [0xBF] + [0] * 16), 2)
        self.assertEqual(fault_number([0x40, 128] + [0] * 128 + [0x40, 0, 0x41, 0]), 0)


class Arranging(Stacks):
    def test_copy_drop_empty_swap_depth(self):
        self.check(0x20, [5], [5, 5])
        self.check(0x20, [LEAST], [LEAST, LEAST])
        self.check(0x21, [5], [])
        self.check(0x23, [1, 2], [2, 1])
        self.assertEqual(stack_behind(push(1, 2, 3) + [0x22]), [])
        self.assertEqual(stack_behind([0x22]), [])
        self.assertEqual(stack_behind([0x24]), [0])
        self.assertEqual(stack_behind(push(9, 9) + [0x24]), [9, 9, 2])

    def test_no_room(self):
        full = [0x40, 128] + [0] * 128
        almost = [0x40, 127] + [0] * 127
        for byte in (0x20, 0x24, 0x4B, 0x4C):
            self.assertEqual(fault_number(full + [byte]), 2, hex(byte))
            self.assertEqual(fault_number(almost + [byte]), 0, hex(byte))
        for byte in (0x0C, 0x0D):
            self.assertEqual(fault_number(almost + [byte]), 2, hex(byte))
            self.assertEqual(fault_number(almost + [0x21, byte]), 0, hex(byte))
        for byte in (0x23, 0x8A, 0x60, 0x64):
            self.assertEqual(fault_number(full + [byte]), 0, hex(byte))

    def test_copy_from_depth(self):
        self.assertEqual(stack_behind(push(6, 7, 8, 1) + [0x25]), [6, 7, 8, 8])
        self.assertEqual(stack_behind(push(6, 7, 8, 3) + [0x25]), [6, 7, 8, 6])

    def test_draw_from_depth(self):
        self.assertEqual(stack_behind(push(6, 7, 8, 1) + [0x26]), [6, 7, 8])
        self.assertEqual(stack_behind(push(6, 7, 8, 2) + [0x26]), [6, 8, 7])
        self.assertEqual(stack_behind(push(6, 7, 8, 3) + [0x26]), [7, 8, 6])

    def test_depth_out_of_range(self):
        for byte in (0x25, 0x26):
            for depth in (0, 4, -1, LEAST, MOST):
                self.assertEqual(fault_number(push(6, 7, 8, depth) + [byte]), 3, depth)
            self.assertEqual(fault_number(push(1) + [byte]), 3)
            self.assertEqual(fault_number([byte]), 1)

    def test_roll(self):
        self.check(0x8A, [1, 2, 3], [2, 3, 1])


class Storage(Stacks):
    def test_cells(self):
        self.assertEqual(stack_behind(push(3, LEAST) + [0x42] + push(3) + [0x43], cells=4), [LEAST])
        self.assertEqual(stack_behind(push(0) + [0x43], cells=4), [0])
        for number in (4, -1, LEAST, MOST):
            self.assertEqual(fault_number(push(number, 5) + [0x42], cells=4), 3)
            self.assertEqual(fault_number(push(number) + [0x43], cells=4), 3)
        self.assertEqual(fault_number(push(9) + [0x42], cells=4), 1)
        self.assertEqual(fault_number([0x43], cells=4), 1)

    def test_control_values(self):
        controls = [5, 6, -7]
        self.assertEqual(stack_behind(push(0) + [0x45] + push(2) + [0x45], controls=controls), [5, -7])
        self.assertEqual(stack_behind(push(1, MOST) + [0x44] + push(1) + [0x45], controls=controls), [MOST])
        for number in (3, -1, LEAST, MOST):
            self.assertEqual(fault_number(push(number, 5) + [0x44], controls=controls), 3)
            self.assertEqual(fault_number(push(number, 5) + [0x70], controls=controls), 3)
            self.assertEqual(fault_number(push(number) + [0x45], controls=controls), 3)
        for byte in (0x44, 0x70):
            self.assertEqual(fault_number(push(9) + [byte], controls=controls), 1)
        self.assertEqual(fault_number([0x45], controls=controls), 1)

    def test_control_values_in_font_units(self):
        read = push(0, 0) + [0x45, 0x48]
        for number, scaled in ((100, 77), (-100, -77), (125, 96), (0, 0)):
            found = told([0, 1000, 0, 0], [1, 1, 0], [3, 12, 0],
                         shape([(0, 0, 0)], [], push(0, number) + [0x70] + read), points(1))
            self.assertEqual(found[-1][2], scaled)

    def test_font_units_are_cut_behind_scaling(self):
        # 64 * 1000 / 16 = 4000 times 2147483647 is 2000 * 2^32 - 4000.
        read = push(0, 0) + [0x45, 0x48]
        for number, scaled in ((MOST, -4000), (LEAST, 0), (536871, 2147484000 - 2 ** 32)):
            found = told([1, 1, 0], [3, 1000, 0], shape([(0, 0, 0)], [], push(0, number) + [0x70] + read), points(1))
            self.assertEqual(found[-1][2], scaled)


class Comparing(Stacks):
    def test_all_six(self):
        rows = {0x50: (1, 0, 0), 0x51: (1, 1, 0), 0x52: (0, 0, 1), 0x53: (0, 1, 1), 0x54: (0, 1, 0), 0x55: (1, 0, 1)}
        for byte, (less, same, more) in rows.items():
            self.check_all(byte, [(1, 2, less), (2, 2, same), (2, 1, more), (-1, 1, less), (1, -1, more),
                                  (LEAST, MOST, less), (MOST, LEAST, more), (LEAST, LEAST, same), (-2, -1, less)])

    def test_odd_and_even(self):
        for number, odd in ((0, 0), (31, 0), (32, 1), (64, 1), (95, 1), (96, 0), (128, 0), (-31, 0), (-32, 1),
                            (-64, 1), (-96, 0), (LEAST, 0), (MOST, 0)):
            self.check(0x56, [number], [odd])
            self.check(0x57, [number], [1 - odd])

    def test_odd_goes_down_behind_the_rounding(self):
        # Half: -1 becomes -32, and -32 / 64 goes down to -1.
        self.assertEqual(stack_behind([0x19] + push(-1) + [0x56]), [1])
        self.assertEqual(stack_behind([0x19] + push(-1) + [0x57]), [0])
        self.assertEqual(stack_behind([0x19] + push(-65) + [0x56]), [0])
        self.assertEqual(stack_behind([0x7A] + push(63) + [0x56]), [0])
        self.assertEqual(stack_behind([0x7C] + push(1) + [0x56]), [1])

    def test_truths(self):
        self.check_all(0x5A, [(0, 0, 0), (0, 5, 0), (5, 0, 0), (5, -1, 1), (LEAST, LEAST, 1)])
        self.check_all(0x5B, [(0, 0, 0), (0, 5, 1), (5, 0, 1), (-1, 5, 1), (LEAST, 0, 1)])
        self.check_all(0x5C, [(0, 1), (1, 0), (-1, 0), (LEAST, 0)])


class Reckoning(Stacks):
    def test_sums_and_differences(self):
        self.check_all(0x60, [(2, 3, 5), (2, -3, -1), (MOST, 1, LEAST), (LEAST, -1, MOST), (LEAST, LEAST, 0)])
        self.check_all(0x61, [(2, 3, -1), (3, 2, 1), (LEAST, 1, MOST), (MOST, -1, LEAST), (0, LEAST, LEAST)])

    def test_division_goes_toward_0(self):
        self.check_all(0x62, [(1, 3, 21), (-1, 3, -21), (1, -3, -21), (-1, -3, 21), (0, 5, 0), (128, 64, 128),
                              (1, 128, 0), (-1, 128, 0), (64, 1, 4096), (MOST, 1, -64), (LEAST, -1, 0),
                              (LEAST, 64, LEAST), (LEAST, -64, LEAST), (MOST, 64, MOST), (MOST, LEAST, -63),
                              (5, -1, -320), (-5, -1, 320)])

    def test_division_by_0(self):
        self.assertEqual(fault_number(push(5, 0) + [0x62]), 8)
        self.assertEqual(fault_number(push(0, 0) + [0x62]), 8)
        self.assertEqual(fault_number(push(0) + [0x62]), 1)

    def test_products_go_to_the_nearest(self):
        self.check_all(0x63, [(64, 64, 64), (1, 32, 1), (-1, 32, 0), (1, 31, 0), (-1, 33, -1), (3, 32, 2),
                              (-3, 32, -1), (-3, -32, 2), (MOST, 64, MOST), (MOST, 128, -2), (LEAST, LEAST, 0),
                              (LEAST, 1, -2 ** 25), (MOST, MOST, -(2 ** 26))])

    def test_size_and_sign(self):
        self.check_all(0x64, [(5, 5), (-5, 5), (0, 0), (LEAST, LEAST), (MOST, MOST)])
        self.check_all(0x65, [(5, -5), (-5, 5), (0, 0), (LEAST, LEAST), (MOST, -MOST)])

    def test_down_and_up(self):
        self.check_all(0x66, [(63, 0), (64, 64), (-1, -64), (-64, -64), (-65, -128), (LEAST, LEAST),
                              (MOST, MOST - 63)])
        self.check_all(0x67, [(0, 0), (1, 64), (64, 64), (65, 128), (-1, 0), (-63, 0), (-64, -64), (LEAST, LEAST),
                              (MOST, LEAST), (MOST - 63, MOST - 63)])

    def test_greater_and_lesser(self):
        self.check_all(0x8B, [(1, 2, 2), (2, 1, 2), (-1, -2, -1), (LEAST, MOST, MOST), (-1, 0, 0)])
        self.check_all(0x8C, [(1, 2, 1), (2, 1, 1), (-1, -2, -2), (LEAST, MOST, LEAST), (-1, 0, -1)])

    def test_rounded_and_as_it_is(self):
        for byte in (0x68, 0x69, 0x6A, 0x6B):
            self.check_all(byte, [(31, 0), (32, 64), (-32, -64), (-31, 0), (MOST, LEAST), (LEAST, LEAST)])
        for byte in (0x6C, 0x6D, 0x6E, 0x6F):
            self.check_all(byte, [(31, 31), (-33, -33), (LEAST, LEAST), (MOST, MOST)])

    def test_dots_and_kind(self):
        for byte in (0x4B, 0x4C):
            self.assertEqual(stack_behind([byte], **DOTS_40), [40])
        self.check_all(0x88, [(0, 0), (1, 40), (2, 0), (3, 40), (-1, 40), (-2, 0), (LEAST, 0), (MOST, 40)])

    def test_nothing_is_done(self):
        for byte in (0x7E, 0x7F, 0x85, 0x8D):
            self.check(byte, [9], [])

    def test_numbers_of_the_whole_range_go_in_and_out(self):
        for number in (0, 1, -1, 32767, 32768, -32768, -32769, 65535, 65536, LEAST, LEAST + 1, MOST, MOST - 1):
            self.assertEqual(stack_behind(push(number)), [number])


class Sizes(unittest.TestCase):
    def test_a_sizes_program_knows_its_dots(self):
        found = told(*setting(dots=33, cells=1, size_code=push(0) + [0x4B, 0x42]),
                     shape([(0, 0, 0)], [], push(0, 0) + [0x43, 0x48]), points(1))
        self.assertEqual(found[-1][2], 33)


if __name__ == "__main__":
    unittest.main()
