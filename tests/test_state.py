"""The state: vectors, reference points, zones, ways of rounding, the kept numbers."""

import unittest

from tests.helper import (LEAST, MOST, answer_of_shape, fitted, init, points, push, shape, size, stack_behind, told,
                          zones)

GIVE_P, GIVE_F, OLD_PLACE, NOW_PLACE, ROUNDED = 0x0C, 0x0D, 0x47, 0x46, 0x68
X, Y, DIAGONAL = [16384, 0], [0, 16384], [11585, 11585]
TURN_ALL = push(3, 4) + [0x0A] + push(3, 4) + [0x0B]
SLANT = [9830, 13107]
CORNERS = [(0, 0, 0), (30, 40, 0), (100, 0, 0), (0, 100, 0)]


def fault_number(code, **others):
    answer = answer_of_shape(CORNERS, code, [3], **others)
    return answer[1] if answer[0] == -5 else 0


class Vectors(unittest.TestCase):
    def vectors(self, code, outline=CORNERS):
        """P, F, and Q: this by the original places of two points that lie 16,384 from the first on x and on y."""
        ruler = [(16384, 0, 0), (0, 16384, 0)]
        count = len(outline)
        asked = [GIVE_P, GIVE_F] + push(count) + [OLD_PLACE] + push(count + 1) + [OLD_PLACE]
        found = stack_behind(list(code) + asked, outline=list(outline) + ruler)
        return found[0:2], found[2:4], found[4:6]

    def test_at_the_beginning(self):
        self.assertEqual(self.vectors([]), (X, X, X))

    def test_axes(self):
        self.assertEqual(self.vectors(TURN_ALL), (SLANT, SLANT, SLANT))
        self.assertEqual(self.vectors(TURN_ALL + [0x00]), (Y, Y, Y))
        self.assertEqual(self.vectors(TURN_ALL + [0x01]), (X, X, X))
        self.assertEqual(self.vectors(TURN_ALL + [0x02]), (Y, SLANT, Y))
        self.assertEqual(self.vectors(TURN_ALL + [0x03]), (X, SLANT, X))
        self.assertEqual(self.vectors(TURN_ALL + [0x04]), (SLANT, Y, SLANT))
        self.assertEqual(self.vectors(TURN_ALL + [0x05]), (SLANT, X, SLANT))

    def test_by_a_line(self):
        turned = [-13107, 9830]
        self.assertEqual(self.vectors(push(1, 0) + [0x06]), (SLANT, X, SLANT))
        self.assertEqual(self.vectors(push(1, 0) + [0x07]), (turned, X, turned))
        self.assertEqual(self.vectors(push(1, 0) + [0x08]), (X, SLANT, X))
        self.assertEqual(self.vectors(push(1, 0) + [0x09]), (X, turned, X))
        self.assertEqual(self.vectors(push(0, 1) + [0x06])[0], [-9830, -13107])
        self.assertEqual(self.vectors(push(0, 1) + [0x09])[1], [13107, -9830])
        self.assertEqual(self.vectors(push(2, 3) + [0x08])[1], [11585, -11585])

    def test_by_no_line(self):
        for byte in (0x06, 0x07):
            self.assertEqual(self.vectors(TURN_ALL + push(1, 1) + [byte]), (X, SLANT, X))
        for byte in (0x08, 0x09):
            self.assertEqual(self.vectors(TURN_ALL + push(1, 1) + [byte]), (SLANT, X, SLANT))
        for byte in (0x86, 0x87):
            self.assertEqual(self.vectors(TURN_ALL + push(1, 1) + [byte]), (X, SLANT, X))

    def test_by_places_now_and_original_ones(self):
        # Point 1 goes from (30, 40) to (40, 40), then to (40, -30).
        moved = push(1, 40) + [0x48]
        self.assertEqual(self.vectors(moved + push(1, 0) + [0x06]), (DIAGONAL, X, DIAGONAL))
        self.assertEqual(self.vectors(moved + push(1, 0) + [0x08]), (X, DIAGONAL, X))
        self.assertEqual(self.vectors(moved + push(1, 0) + [0x86]), (DIAGONAL, X, SLANT))
        self.assertEqual(self.vectors(moved + push(1, 0) + [0x87]), ([-11585, 11585], X, [-13107, 9830]))
        self.assertEqual(self.vectors(push(1, 0) + [0x48, 0x00] + push(1, 0) + [0x48, 0x01] + push(1, 0) + [0x86]),
                         (X, X, SLANT))

    def test_lines_between_zones(self):
        # Point 0 of zone 0 stands at (50, 0), and originally too.
        move = push(0, 0) + [0x15, 0xB8, 0, 50, 0x48] + push(1) + [0x15]
        for byte, expected in ((0x06, ([-7327, 14654])), (0x86, ([-7327, 14654]))):
            code = move + push(0) + [0x15] + push(1, 0) + [byte] + push(1) + [0x15, GIVE_P]
            self.assertEqual(stack_behind(code, outline=CORNERS, twilight=1), expected)
            code = move + push(0) + [0x14] + push(0, 1) + [byte] + push(1) + [0x14, GIVE_P]
            self.assertEqual(stack_behind(code, outline=CORNERS, twilight=1), [7327, -14654])

    def test_lines_over_the_edge_of_32_bits(self):
        far = push(0, LEAST) + [0x48] + push(1, MOST) + [0x48]
        code = far + push(1, 0) + [0x06, GIVE_P] + push(1, 0) + [0x07, GIVE_P] + push(0, 1) + [0x08, GIVE_F]
        self.assertEqual(stack_behind(code, outline=[(0, 0, 0), (0, 0, 0)]), [16384, 0, 0, 16384, -16384, 0])

    def test_lines_take_points_in_range(self):
        for byte in (0x06, 0x07, 0x08, 0x09, 0x86, 0x87):
            self.assertEqual(fault_number(push(0, 4) + [byte]), 3)
            self.assertEqual(fault_number(push(4, 0) + [byte]), 3)
            self.assertEqual(fault_number(push(-1, 0) + [byte]), 3)
            self.assertEqual(fault_number(push(0) + [byte]), 1)

    def test_by_numbers(self):
        rows = ((3, 4, [9830, 13107]), (1, 1, DIAGONAL), (-1, -1, [-11585, -11585]), (0, 0, X), (0, -5, [0, -16384]),
                (-9, 0, [-16384, 0]), (32767, 1, [16384, 1]), (32767, -1, [16384, -1]), (-32768, 1, [-16384, 0]),
                (32768, 0, [-16384, 0]), (65536, 65536, X), (65537, -65535, DIAGONAL), (1, 2, [7327, 14654]),
                (-32768, -32768, [-11585, -11585]), (5, -12, [6302, -15124]), (16383, 16384, [11585, 11586]))
        for x, y, expected in rows:
            self.assertEqual(self.vectors(push(x, y) + [0x0A]), (expected, X, expected), (x, y))
            self.assertEqual(self.vectors(push(x, y) + [0x0B]), (X, expected, X), (x, y))
        for byte in (0x0A, 0x0B):
            self.assertEqual(fault_number(push(1) + [byte]), 1)

    def test_freedom_as_projection(self):
        self.assertEqual(self.vectors(push(3, 4) + [0x0A, 0x0E]), (SLANT, SLANT, SLANT))
        self.assertEqual(self.vectors(push(1, 40) + [0x48] + push(1, 0) + [0x86, 0x0E]), (DIAGONAL, DIAGONAL, SLANT))


class References(unittest.TestCase):
    OUTLINE = [(0, 0, 0), (100, 0, 0), (300, 0, 0), (1000, 0, 0)]

    def test_each_by_what_it_serves_for(self):
        # 3C goes to r0, 33 takes r1's way, 32 r2's.
        moved = push(2, 310) + [0x48]
        self.assertEqual(fitted(self.OUTLINE, push(2) + [0x10] + push(3) + [0x3C])[3], (300, 0, 2))
        self.assertEqual(fitted(self.OUTLINE, moved + push(2) + [0x11] + push(3) + [0x33])[3], (1010, 0, 2))
        self.assertEqual(fitted(self.OUTLINE, moved + push(2) + [0x12] + push(3) + [0x32])[3], (1010, 0, 2))

    def test_they_are_0_at_the_beginning(self):
        moved = push(0, 7) + [0x48]
        for byte, x in ((0x3C, 7), (0x33, 1007), (0x32, 1007)):
            self.assertEqual(fitted(self.OUTLINE, moved + push(3) + [byte])[3], (x, 0, 2))

    def test_any_number_may_be_one_but_not_be_used(self):
        for byte, use in ((0x10, 0x3C), (0x11, 0x33), (0x12, 0x32)):
            for number in (4, -1, LEAST, MOST):
                self.assertEqual(fault_number(push(number) + [byte]), 0)
                self.assertEqual(fault_number(push(number) + [byte] + push(0) + [use]), 3)
            self.assertEqual(fault_number([byte]), 1)


class Zones(unittest.TestCase):
    def test_each_pointer(self):
        # 2E uses z0, 3A z1 (from r0 of z0), 48 z2.
        outline = [(1, 0, 0)]
        for pointer, use in ((0x13, push(1) + [0x2E]), (0x14, push(1, 5) + [0x3A]), (0x15, push(1, 5) + [0x48])):
            found = zones(outline, push(0) + [pointer] + use, twilight=2)
            self.assertEqual(found[1], [(1, 0, 0)])
            self.assertEqual(found[0][1][2], 2)
            self.assertEqual(zones(outline, push(0) + [0x16] + use, twilight=2)[0][1][2], 2)
            back = push(0) + [0x16] + push(1) + [pointer]
            self.assertEqual(answer_of_shape(outline, back + use, twilight=2)[:2], [-5, 3])

    def test_out_of_range(self):
        for byte in (0x13, 0x14, 0x15, 0x16):
            for number in (0, 1):
                self.assertEqual(fault_number(push(number) + [byte]), 0)
            for number in (2, -1, LEAST, MOST, 256):
                self.assertEqual(fault_number(push(number) + [byte]), 3)
            self.assertEqual(fault_number([byte]), 1)


class Loop(unittest.TestCase):
    def test_bounds(self):
        for number in (1, 2, 65535):
            self.assertEqual(fault_number(push(number) + [0x17]), 0)
        for number in (0, -1, 65536, LEAST, MOST):
            self.assertEqual(fault_number(push(number) + [0x17]), 3)
        self.assertEqual(fault_number([0x17]), 1)

    def test_it_serves_once(self):
        for byte in (0x80, 0x3C, 0x39, 0x32, 0x33):
            self.assertEqual(fault_number(push(0, 1, 2, 3) + [0x17, byte]), 0)
            self.assertEqual(fault_number(push(1, 2, 3) + [0x17, byte]), 1)
            self.assertEqual(stack_behind(push(9, 0, 1, 2, 2) + [0x17, byte, byte], outline=CORNERS), [9])
        self.assertEqual(stack_behind(push(9, 0, 1, 2, 64, 2) + [0x17, 0x38] + push(64) + [0x38], outline=CORNERS), [9])
        self.assertEqual(fault_number(push(1, 2, 64, 3) + [0x17, 0x38]), 1)

    def test_others_leave_it(self):
        self.assertEqual(stack_behind(push(0, 1, 2, 2) + [0x17, 0x2E, 0x3C], outline=CORNERS), [])


class Rounding(unittest.TestCase):
    def check(self, code, rows):
        for number, expected in rows:
            found = stack_behind(code + push(number) + [ROUNDED])
            self.assertEqual(found, [expected], (code, number))

    def test_grid(self):
        rows = [(0, 0), (31, 0), (32, 64), (95, 64), (96, 128), (-31, 0), (-32, -64), (MOST, LEAST), (LEAST, LEAST),
                (MOST - 32, MOST - 63)]
        self.check([], rows)
        self.check([0x19, 0x18], rows)

    def test_half(self):
        self.check([0x19], [(0, 32), (63, 32), (64, 96), (-1, -32), (-63, -32), (-64, -96), (MOST, MOST - 31),
                            (LEAST, MOST - 31)])

    def test_double(self):
        self.check([0x3D], [(15, 0), (16, 32), (47, 32), (48, 64), (-15, 0), (-16, -32), (MOST, LEAST),
                            (LEAST, LEAST)])

    def test_down(self):
        self.check([0x7D], [(63, 0), (64, 64), (127, 64), (-63, 0), (-64, -64), (MOST, MOST - 63), (LEAST, LEAST)])

    def test_up(self):
        self.check([0x7C], [(0, 0), (1, 64), (64, 64), (65, 128), (-1, -64), (-65, -128), (MOST, LEAST),
                            (LEAST, LEAST)])

    def test_off(self):
        self.check([0x7A], [(0, 0), (17, 17), (-17, -17), (MOST, MOST), (LEAST, LEAST)])

    def by(self, instruction, byte):
        return push(byte) + [instruction]

    def test_by_a_byte(self):
        # Period 64, phase 0, threshold 32: as grid.
        self.check(self.by(0x76, 0x48), [(31, 0), (32, 64), (-31, 0), (-32, -64), (96, 128)])
        # Period 32, threshold the greatest below it.
        self.check(self.by(0x76, 0x00), [(0, 0), (1, 32), (32, 32), (33, 64), (-1, -32)])
        # Period 128, threshold 64; phase 32, 64, 96.
        self.check(self.by(0x76, 0x88), [(63, 0), (64, 128), (191, 128), (192, 256)])
        self.check(self.by(0x76, 0x98), [(0, 32), (95, 32), (96, 160), (-96, -160)])
        self.check(self.by(0x76, 0xA8), [(0, 64), (127, 64), (128, 192)])
        self.check(self.by(0x76, 0xB8), [(0, 96), (159, 96), (160, 224)])
        # The fourth choice of a period is 64 again.
        self.check(self.by(0x76, 0xC8), [(31, 0), (32, 64)])
        self.check(self.by(0x76, 0xC0), [(0, 0), (1, 64), (64, 64), (65, 128)])

    def test_choices_of_a_period_go_by_bits_6_and_7(self):
        # i is 15 and j is 3 in each: three quarters for a phase, 11 eighths for a threshold.
        self.check(self.by(0x76, 0x3F), [(0, 24), (11, 24), (12, 56)])
        self.check(self.by(0x76, 0x7F), [(0, 48), (23, 48), (24, 112)])
        self.check(self.by(0x76, 0xBF), [(0, 96), (47, 96), (48, 224)])
        self.check(self.by(0x76, 0xFF), [(0, 48), (23, 48), (24, 112)])
        # i and j are 0 in each.
        self.check(self.by(0x76, 0x40), [(0, 0), (1, 64), (64, 64), (65, 128)])
        self.check(self.by(0x76, 0x80), [(0, 0), (1, 128), (128, 128), (129, 256)])

    def test_thresholds(self):
        # Period 64: (i - 4) / 8 of it.
        self.check(self.by(0x76, 0x41), [(0, 0), (87, 0), (88, 64), (151, 64), (152, 128), (-87, 0), (-88, -64)])
        self.check(self.by(0x76, 0x44), [(63, 0), (64, 64)])
        self.check(self.by(0x76, 0x45), [(55, 0), (56, 64)])
        self.check(self.by(0x76, 0x4F), [(0, 64), (39, 64), (40, 128), (-1, -64)])

    def test_below_0_it_is_the_phase(self):
        self.check(self.by(0x76, 0x71), [(0, 48), (1, 48), (47, 48), (135, 48), (136, 112), (-1, -48)])
        self.check(self.by(0x76, 0x61), [(0, 32), (-5, -32)])

    def test_across(self):
        # Period 11585 / 256 = 45, threshold 22.
        self.check(self.by(0x77, 0x48), [(22, 0), (23, 45), (67, 45), (68, 90), (-23, -45)])
        # Period 22, threshold 22 of 5791 / 256.
        self.check(self.by(0x77, 0x00), [(0, 22), (1, 22), (21, 22), (22, 44)])
        # Period 90, threshold 45.
        self.check(self.by(0x77, 0x88), [(44, 0), (45, 90)])
        # Phases 11, 22, 33 of 45; thresholds below 0 go down.
        self.check(self.by(0x77, 0x58), [(0, 11), (33, 11), (34, 56)])
        self.check(self.by(0x77, 0x68), [(0, 22), (44, 22), (45, 67)])
        self.check(self.by(0x77, 0x78), [(0, 33), (55, 33), (56, 78)])
        self.check(self.by(0x77, 0x41), [(61, 0), (62, 45)])
        self.check(self.by(0x77, 0xC8), [(22, 0), (23, 45)])

    def test_the_low_byte_counts(self):
        self.check(self.by(0x76, 0x1148), [(31, 0), (32, 64)])
        self.check(self.by(0x76, 0x48 - 256), [(31, 0), (32, 64)])
        self.check(self.by(0x77, LEAST + 0x48), [(22, 0), (23, 45)])

    def test_at_the_edges_of_32_bits(self):
        self.check(self.by(0x76, 0x48), [(MOST, LEAST), (LEAST, LEAST)])
        self.check(self.by(0x76, 0x58), [(LEAST, MOST - 15), (MOST, LEAST + 16)])

    def test_they_take_a_byte(self):
        self.assertEqual(fault_number([0x76]), 1)
        self.assertEqual(fault_number([0x77]), 1)


class Kept(unittest.TestCase):
    NEAR = [(0, 0, 0), (10, 0, 0), (-10, 0, 0), (100, 0, 0)]

    def distance(self, code, byte, point=1, **others):
        return fitted(self.NEAR, code + push(point) + [byte], **others)[point][0]

    def by_control(self, code, byte, controls, point=3):
        return fitted(self.NEAR, code + push(point, 0) + [byte], controls=controls)[point][0]

    def test_least_distance(self):
        self.assertEqual(self.distance([], 0xC8), 64)
        self.assertEqual(self.distance([], 0xC8, 2), -64)
        self.assertEqual(self.distance(push(99) + [0x1A], 0xC8), 99)
        self.assertEqual(self.distance(push(99) + [0x1A], 0xC8, 2), -99)
        self.assertEqual(self.distance(push(99) + [0x1A], 0xC0), 10)

    def test_cut_in(self):
        self.assertEqual(self.by_control([], 0xE4, [168]), 192)
        self.assertEqual(self.by_control([], 0xE4, [169]), 128)
        self.assertEqual(self.by_control(push(69) + [0x1D], 0xE4, [169]), 192)
        self.assertEqual(self.by_control(push(-1) + [0x1D], 0xE4, [100]), 128)

    def test_single_width_and_its_cut_in(self):
        self.assertEqual(self.distance([], 0xC0, 3), 100)
        self.assertEqual(self.distance(push(110, 11) + [0x1E, 0x1F], 0xC0, 3), 110)
        self.assertEqual(self.distance(push(110, 10) + [0x1E, 0x1F], 0xC0, 3), 100)
        self.assertEqual(self.distance(push(1) + [0x1E], 0xC0, 3), 100)

    def test_single_width_is_scaled(self):
        self.assertEqual(self.distance(push(110, 11) + [0x1E, 0x1F], 0xC0, 3, dots=256), 110)
        code = push(25, 99) + [0x1E, 0x1F] + push(1) + [0xC0]
        found = told(init(128), size(1), shape([(0, 0, 0), (10, 0, 0)], [], code), points(1))
        # 25 units of 128 to the dot come to 12.5 64ths, so 13.
        self.assertEqual(found[-1], [0, 2, 0, 0, 0, 13, 0, 2])

    def test_flip(self):
        self.assertEqual(self.by_control([], 0xE0, [-90]), 90)
        self.assertEqual(self.by_control([0x4E], 0xE0, [-90]), -90)
        self.assertEqual(self.by_control([0x4E, 0x4D], 0xE0, [-90]), 90)

    def delta(self, code, told, dots):
        return fitted([(0, 0, 0)], code + push(told, 0, 1) + [0x5D], dots=dots)[0][0]

    def test_delta_base_and_shift(self):
        self.assertEqual(self.delta([], 0x08, 9), 8)
        self.assertEqual(self.delta(push(20) + [0x5E], 0x08, 20), 8)
        self.assertEqual(self.delta(push(20) + [0x5E], 0x08, 9), 0)
        self.assertEqual(self.delta(push(65536 + 20) + [0x5E], 0x08, 20), 8)
        self.assertEqual(self.delta(push(-1) + [0x5E], 0x18, 15), 0)
        for shift in range(7):
            self.assertEqual(self.delta(push(shift) + [0x5F], 0x08, 9), 2 ** (6 - shift))
            self.assertEqual(self.delta(push(shift) + [0x5F], 0x00, 9), -8 * 2 ** (6 - shift))
        for shift in (7, -1, LEAST, MOST, 256):
            self.assertEqual(fault_number(push(shift) + [0x5F]), 3)

    def test_the_low_16_bits_have_no_sign(self):
        # 65535 + 16 is no number of dots, though -1 + 16 would be one.
        self.assertEqual(self.delta(push(-1) + [0x5E], 0xF8, 14), 0)

    def test_they_take_a_number(self):
        for byte in (0x1A, 0x1D, 0x1E, 0x1F, 0x5E, 0x5F):
            self.assertEqual(fault_number([byte]), 1)

    def test_all_seven_go_from_a_size_to_its_shapes(self):
        self.assertEqual(self.distance([], 0xC8, size_code=push(99) + [0x1A]), 99)
        self.assertEqual(self.distance([], 0xC0, 3, size_code=push(110, 11) + [0x1E, 0x1F]), 110)
        found = fitted(self.NEAR, push(3, 0) + [0xE4], controls=[169], size_code=push(69) + [0x1D])
        self.assertEqual(found[3][0], 192)
        found = fitted(self.NEAR, push(3, 0) + [0xE0], controls=[-90], size_code=[0x4E])
        self.assertEqual(found[3][0], -90)
        found = fitted(self.NEAR, push(0x18, 0, 1) + [0x5D], dots=21, size_code=push(6, 20) + [0x5E, 0x5F])
        self.assertEqual(found[0][0], 1)

    def test_all_seven_are_new_behind_plain(self):
        plain = push(1, 2) + [0x8E]
        self.assertEqual(self.distance([], 0xC8, size_code=push(99) + [0x1A] + plain), 64)
        self.assertEqual(self.distance([], 0xC0, 3, size_code=push(110, 11) + [0x1E, 0x1F] + plain), 100)
        found = fitted(self.NEAR, push(3, 0) + [0xE4], controls=[169], size_code=push(69) + [0x1D] + plain)
        self.assertEqual(found[3][0], 128)
        found = fitted(self.NEAR, push(3, 0) + [0xE0], controls=[-90], size_code=[0x4E] + plain)
        self.assertEqual(found[3][0], 90)
        found = fitted(self.NEAR, push(0x18, 0, 1) + [0x5D], dots=10, size_code=push(6, 20) + [0x5E, 0x5F] + plain)
        self.assertEqual(found[0][0], 8)

    def test_the_rest_of_the_state_is_new_with_each_program(self):
        wild = [0x00, 0x19] + push(0) + [0x16] + push(1) + [0x10] + push(5) + [0x17] + push(1, 2, 3)
        found = fitted([(10, 20, 0), (40, 0, 0)], push(1) + [0x2F] + push(1) + [0x3C], twilight=2, size_code=wild)
        self.assertEqual(found, [(10, 20, 0), (64, 0, 2)])


class ShapeControl(unittest.TestCase):
    def moved(self, size_code, shape_code=(), font_code=()):
        """Whether a shape's program moved its point, and whether it saw the size's least distance."""
        found = fitted([(10, 0, 0), (20, 0, 0)], list(shape_code) + push(1) + [0xC8], font_code=font_code,
                       size_code=push(99) + [0x1A] + list(size_code))
        return {20: "still", 10 + 99: "run", 10 + 64: "plain"}[found[1][0]]

    def test_still_and_plain(self):
        self.assertEqual(self.moved([]), "run")
        self.assertEqual(self.moved(push(1, 1) + [0x8E]), "still")
        self.assertEqual(self.moved(push(1, 2) + [0x8E]), "plain")
        self.assertEqual(self.moved(push(LEAST, 2) + [0x8E]), "plain")
        self.assertEqual(self.moved(push(1, 1) + [0x8E] + push(0, 1) + [0x8E]), "run")
        self.assertEqual(self.moved(push(1, 2) + [0x8E] + push(0, 2) + [0x8E]), "run")
        self.assertEqual(self.moved(push(1, 2) + [0x8E] + push(0, 1) + [0x8E]), "plain")

    def test_nothing_else(self):
        for number in (0, 3, -1, 4, LEAST, 257):
            self.assertEqual(self.moved(push(1, number) + [0x8E]), "run")

    def test_nowhere_else(self):
        for number in (1, 2):
            self.assertEqual(self.moved([], push(1, number) + [0x8E]), "run")
            self.assertEqual(self.moved([], (), push(1, number) + [0x8E]), "run")

    def test_in_a_function_that_a_sizes_program_calls(self):
        self.assertEqual(self.moved(push(0) + [0x2B], (), push(0) + [0x2C] + push(1, 1) + [0x8E, 0x2D]), "still")

    def test_it_takes_two(self):
        self.assertEqual(fault_number(push(1) + [0x8E]), 1)
        self.assertEqual(stack_behind(push(7, 1, 1) + [0x8E]), [7])


if __name__ == "__main__":
    unittest.main()
