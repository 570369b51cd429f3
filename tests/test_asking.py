"""The calls that only ask: get, state, unit, rounded, along; and all eleven calls in one list."""

import random
import unittest

from gridfit.machine import answers
from tests.helper import (ALL_ZONES, CALL, LEAST, MOST, SET_PLACE, along, font, function, get, init, points, push,
                          rounded, setting, shape, size, state, told, unit, values)

SET_CELL, SET_CONTROL, SET_SCALED, ROUND_POINT, SET_LEAST, CONTROL_SHAPES = 0x42, 0x44, 0x70, 0x2F, 0x1A, 0x8E
GROW_CONTROLS, NO_INSTRUCTION = 0x73, 0x28
GREATEST = 4294967295
DOT = [(10, 20, 1)]

CELL, CONTROL, OLD_X, OLD_Y = range(4)


def change_all(number):
    """Code that changes cell 0, control value 0 and both places of point 0 of zone 0."""
    return (push(0, number) + [SET_CELL] + push(0, number) + [SET_CONTROL] + push(0) + [ALL_ZONES]
            + push(0, number) + [0x01, SET_PLACE] + push(0, number) + [0x00, SET_PLACE])


class Get(unittest.TestCase):
    def answers_of(self, before, *asked):
        found = told(*before, *asked)
        self.assertEqual([answer[0] for answer in found[:len(before)]], [0] * len(before))
        return found[len(before):]

    def test_cells(self):
        code = push(0, 5) + [SET_CELL] + push(1, LEAST) + [SET_CELL] + push(2, MOST) + [SET_CELL]
        found = self.answers_of(setting(cells=4, size_code=code), *[get(CELL, i) for i in range(5)])
        self.assertEqual(found, [[0, 5], [0, LEAST], [0, MOST], [0, 0], [-1]])

    def test_control_values(self):
        # 64 * 17 / 1000 of each: 5.44, -35651.584, 35650.496, 0.
        begun = [init(1000), values([5, -32768, 32767, 0]), size(17)]
        found = self.answers_of(begun, *[get(CONTROL, i) for i in range(5)])
        self.assertEqual(found, [[0, 5], [0, -35652], [0, 35650], [0, 0], [-1]])

    def test_control_values_that_the_sizes_program_sets(self):
        code = push(0, -9) + [SET_CONTROL] + push(1, 1000) + [SET_SCALED] + push(0x08, 2, 1) + [GROW_CONTROLS]
        found = self.answers_of([init(1000), values([5, 5, 5]), size(9, code)], *[get(CONTROL, i) for i in range(3)])
        # 64 * 5 * 9 / 1000 is 2.88; the delta at 9 dots, of step 1 and shift 3, adds 8.
        self.assertEqual(found, [[0, -9], [0, 576], [0, 11]])

    def test_original_places_of_zone_0(self):
        code = push(0) + [ALL_ZONES]
        for number, (x, y) in enumerate([(0, 0), (70, -80), (LEAST, MOST)]):
            code += push(number, x) + [0x01, SET_PLACE] + push(number, y) + [0x00, SET_PLACE]
        found = self.answers_of(setting(twilight=4, size_code=code), *[get(OLD_X, i) for i in range(5)],
                                *[get(OLD_Y, i) for i in range(5)])
        self.assertEqual(found, [[0, 0], [0, 70], [0, LEAST], [0, 0], [-1],
                                 [0, 0], [0, -80], [0, MOST], [0, 0], [-1]])

    def test_not_the_places_now(self):
        code = push(0) + [ALL_ZONES] + push(0, 70) + [SET_PLACE] + push(0) + [ROUND_POINT]
        found = self.answers_of(setting(twilight=1, size_code=code), get(OLD_X, 0), shape([]), points(0))
        self.assertEqual(found, [[0, 70], [0], [0, 1, 64, 0, 2]])

    def test_at_the_most_that_there_may_be(self):
        begun = [init(64, 16, 64), values(range(64)), size(1)]
        found = self.answers_of(begun, get(CELL, 63), get(CELL, 64), get(CONTROL, 63), get(CONTROL, 64),
                                get(OLD_X, 15), get(OLD_X, 16), get(OLD_Y, 15), get(OLD_Y, 16))
        self.assertEqual(found, [[0, 0], [-1], [0, 63], [-1], [0, 0], [-1], [0, 0], [-1]])

    def test_each_kind_has_a_bound_of_its_own(self):
        found = self.answers_of([init(64, 1, 3), values([7, 8]), size(1)],
                                *[get(what, i) for what in range(4) for i in range(4)])
        self.assertEqual(found, [[0, 0], [0, 0], [0, 0], [-1], [0, 7], [0, 8], [-1], [-1],
                                 [0, 0], [-1], [-1], [-1], [0, 0], [-1], [-1], [-1]])

    def test_there_is_no_other_kind(self):
        begun = setting(twilight=16, cells=64, controls=[1] * 64)
        for what in (4, 5, 256, GREATEST - 3, GREATEST):
            self.assertEqual(self.answers_of(begun, get(what, 0)), [[-1]])
        for what in range(5):
            self.assertEqual(self.answers_of(begun, get(what, GREATEST)), [[-1]])

    def test_out_of_bounds_comes_before_not_the_time(self):
        asked = [get(what, i) for what in range(5) for i in range(3)]
        self.assertEqual(told(*asked), [[-1]] * 15)
        found = self.answers_of([init(64, 1, 2), values([9, 9, 9])], *asked)
        self.assertEqual(found, [[-2], [-2], [-1], [-2], [-2], [-2]] + [[-2], [-1], [-1]] * 2 + [[-1]] * 3)
        self.assertEqual(self.answers_of([init(64, 1, 2)], get(GREATEST, GREATEST), get(CELL, GREATEST)), [[-1]] * 2)

    def test_without_a_size_again(self):
        begun = setting(twilight=1, cells=1, controls=[1])
        asked = [get(what, 0) for what in range(4)]
        self.assertEqual(self.answers_of(begun, *asked), [[0, 0], [0, 1], [0, 0], [0, 0]])
        self.assertEqual(self.answers_of(begun + [font([])], *asked), [[-2]] * 4)
        self.assertEqual(self.answers_of(begun + [values([1])], *asked), [[-2]] * 4)
        self.assertEqual(self.answers_of(begun + [values([])], *asked), [[-2], [-1], [-2], [-2]])
        self.assertEqual(self.answers_of(begun + [init(64)], *asked), [[-1]] * 4)

    def test_a_shapes_program_does_not_have_the_last_word(self):
        asked = [get(what, 0) for what in range(4)]
        begun = setting(twilight=1, cells=1, controls=[1], size_code=change_all(50))
        self.assertEqual(self.answers_of(begun, *asked), [[0, 50]] * 4)
        for after in (shape(DOT, [0], change_all(777)), shape(DOT, [0], [])):
            self.assertEqual(self.answers_of(begun + [after], *asked), [[0, 50]] * 4)
        found = told(*begun, shape(DOT, [0], change_all(777) + [NO_INSTRUCTION]), *asked)
        self.assertEqual(found[4][:2], [-5, 5])
        self.assertEqual(found[5:], [[0, 50]] * 4)

    def test_the_last_sizes_program_has_it(self):
        asked = [get(what, 0) for what in range(4)]
        begun = setting(twilight=1, cells=1, controls=[1], size_code=change_all(50))
        self.assertEqual(self.answers_of(begun + [size(1, change_all(-3))], *asked), [[0, -3]] * 4)
        self.assertEqual(self.answers_of(begun + [size(3)], *asked), [[0, 0], [0, 3], [0, 0], [0, 0]])

    def test_a_refused_or_faulty_size_does_not(self):
        asked = [get(what, 0) for what in range(4)]
        begun = setting(twilight=1, cells=1, controls=[1], size_code=change_all(50))
        for refused in (size(0, change_all(7)), size(1001), size(2, change_all(7) + [NO_INSTRUCTION]),
                        font(change_all(7) + [NO_INSTRUCTION]), values([5] * 65), init(15)):
            found = told(*begun, refused, *asked)
            self.assertIn(found[4][0], (-1, -5))
            self.assertEqual(found[5:], [[0, 50]] * 4)

    def test_a_fonts_program_leaves_no_numbers(self):
        begun = setting(twilight=1, cells=1, controls=[1], font_code=change_all(50))
        self.assertEqual(self.answers_of(begun, *[get(what, 0) for what in range(4)]),
                         [[0, 0], [0, 1], [0, 0], [0, 0]])

    def test_asking_changes_nothing(self):
        begun = setting(twilight=1, cells=1, controls=[1], size_code=change_all(50)) + [shape(DOT, [0])]
        asked = [get(CELL, 0), get(4, 0), get(CELL, 1), points(0), points(1)]
        first = self.answers_of(begun, *asked)
        self.assertEqual(first, [[0, 50], [-1], [-1], [0, 1, 50, 50, 6], [0, 1, 10, 20, 1]])
        self.assertEqual(self.answers_of(begun, *asked, *asked), first + first)


ALL_SEVEN = (push(90) + [SET_LEAST] + push(17) + [0x1D] + push(500) + [0x1F] + push(33) + [0x1E] + push(40) + [0x5E]
             + push(6) + [0x5F] + [0x4E])


class State(unittest.TestCase):
    UNCHANGED = [64, 68, 0, 0, 9, 3, 1, 0, 0]

    def state_behind(self, code, dots=12, **others):
        begun = setting(dots=dots, **others)[:3]
        found = told(*begun, size(dots, code), state())
        self.assertEqual(found[3], [0])
        return found[4]

    def test_a_program_that_changes_none(self):
        self.assertEqual(self.state_behind([]), [0] + self.UNCHANGED + [12])
        self.assertEqual(self.state_behind(push(1) + [0x21], 1000),
                         [0] + self.UNCHANGED + [1000])
        self.assertEqual(self.state_behind([], 1), [0] + self.UNCHANGED + [1])

    def test_a_program_that_changes_each(self):
        code = ALL_SEVEN + push(1, 1) + [CONTROL_SHAPES] + push(1, 2) + [CONTROL_SHAPES]
        found = told(init(1000), size(12, code), state())
        # The single width is 64 * 500 * 12 / 1000.
        self.assertEqual(found[-1], [0, 90, 17, 384, 33, 40, 6, 0, 1, 1, 12])

    def test_one_by_one(self):
        for place, code, number in (
                (0, push(5) + [SET_LEAST], 5), (0, push(LEAST) + [SET_LEAST], LEAST), (0, push(0) + [SET_LEAST], 0),
                (1, push(5) + [0x1D], 5), (1, push(-1) + [0x1D], -1), (1, push(MOST) + [0x1D], MOST),
                (2, push(5) + [0x1F], 5), (2, push(-70) + [0x1F], -70), (2, push(MOST) + [0x1F], MOST),
                (3, push(5) + [0x1E], 5), (3, push(LEAST) + [0x1E], LEAST),
                (4, push(5) + [0x5E], 5), (4, push(-1) + [0x5E], 65535), (4, push(65536 + 8) + [0x5E], 8),
                (4, push(32768) + [0x5E], 32768), (5, push(0) + [0x5F], 0), (5, push(6) + [0x5F], 6),
                (6, [0x4E], 0), (6, [0x4E, 0x4D], 1), (6, [0x4D], 1), (6, [0x4D, 0x4E], 0),
                (7, push(1, 1) + [CONTROL_SHAPES], 1), (7, push(-8, 1) + [CONTROL_SHAPES], 1),
                (7, push(1, 1) + [CONTROL_SHAPES] + push(0, 1) + [CONTROL_SHAPES], 0),
                (8, push(1, 2) + [CONTROL_SHAPES], 1), (8, push(LEAST, 2) + [CONTROL_SHAPES], 1),
                (8, push(1, 2) + [CONTROL_SHAPES] + push(0, 2) + [CONTROL_SHAPES], 0)):
            wanted = [0] + self.UNCHANGED + [12]
            wanted[1 + place] = number
            self.assertEqual(self.state_behind(code), wanted, code)
            called = self.state_behind(push(3) + [CALL], font_code=function(3, code))
            self.assertEqual(called, wanted, code)

    def test_the_single_width_is_scaled_and_cut(self):
        # 64 * 1000 / 16 of MOST is 4000 * 2^31 - 4000; of 3 at 1 dot of 128 units it is 1.5.
        found = told(init(16), size(1000, push(MOST) + [0x1F]), state(), init(128), size(1, push(3) + [0x1F]), state(),
                     size(1, push(-3) + [0x1F]), state())
        self.assertEqual([found[place][3] for place in (2, 5, 7)], [-4000, 2, -1])

    def test_others_of_control_shapes_are_nothing(self):
        for which in (0, 3, -1, 257, 65537):
            self.assertEqual(self.state_behind(push(1, which) + [CONTROL_SHAPES]), [0] + self.UNCHANGED + [12])

    def test_without_a_size(self):
        self.assertEqual(told(state(), init(64), state(), values([]), state(), font([]), state()),
                         [[-2], [0], [-2], [0], [-2], [0], [-2]])
        for gone in (init(64), values([]), font([])):
            self.assertEqual(told(*setting(), gone, state())[-1], [-2])
        self.assertEqual(told(size(0), state(), size(1, [NO_INSTRUCTION]), state())[1::2], [[-2], [-2]])

    def test_a_shapes_program_changes_none(self):
        changed = ALL_SEVEN + push(1, 1) + [CONTROL_SHAPES] + push(1, 2) + [CONTROL_SHAPES]
        for code, wanted in (([], self.UNCHANGED), (ALL_SEVEN, [90, 17, 500, 33, 40, 6, 0, 0, 0]),
                             (push(1, 2) + [CONTROL_SHAPES], self.UNCHANGED[:8] + [1])):
            other = push(7) + [SET_LEAST] + push(0) + [0x5F] + [0x4D] + changed
            found = told(*setting(size_code=code), shape(DOT, [0], other), state(),
                         shape(DOT, [0], other + [NO_INSTRUCTION]), state())
            self.assertEqual(found[4], [0])
            self.assertEqual(found[6][:2], [-5, 5])
            self.assertEqual([found[5], found[7]], [[0] + wanted + [1]] * 2)

    def test_a_fonts_program_changes_none(self):
        changed = ALL_SEVEN + push(1, 1) + [CONTROL_SHAPES] + push(1, 2) + [CONTROL_SHAPES]
        self.assertEqual(told(*setting(font_code=changed), state())[-1], [0] + self.UNCHANGED + [1])

    def test_a_size_begins_anew_and_a_refused_one_changes_nothing(self):
        changed = ALL_SEVEN + push(1, 1) + [CONTROL_SHAPES] + push(1, 2) + [CONTROL_SHAPES]
        begun = setting(size_code=changed)
        wanted = [0, 90, 17, 500, 33, 40, 6, 0, 1, 1, 1]
        self.assertEqual(told(*begun, state(), size(2), state())[4:], [wanted, [0], [0] + self.UNCHANGED + [2]])
        for refused in (size(0), size(1001), size(2, [0x59] * 2049), size(2, push(3) + [SET_LEAST, NO_INSTRUCTION])):
            found = told(*begun, shape(DOT), refused, state(), points(1))
            self.assertLess(found[5][0], 0)
            self.assertEqual(found[6:], [wanted, [0, 1, 10, 20, 1]])

    def test_plain_keeps_the_sizes_own(self):
        found = told(*setting(size_code=ALL_SEVEN + push(1, 2) + [CONTROL_SHAPES]), shape(DOT, [0], [0x59]), state())
        self.assertEqual(found[-1], [0, 90, 17, 500, 33, 40, 6, 0, 0, 1, 1])


class Unit(unittest.TestCase):
    def check(self, x, y, wanted):
        self.assertEqual(told(unit(x, y)), [[0] + list(wanted)], (x, y))

    def test_no_way(self):
        self.check(0, 0, (16384, 0))

    def test_axes(self):
        for number in (1, 2, 77, 16384, 65536, MOST):
            self.check(number, 0, (16384, 0))
            self.check(-number, 0, (-16384, 0))
            self.check(0, number, (0, 16384))
            self.check(0, -number, (0, -16384))
        self.check(LEAST, 0, (-16384, 0))
        self.check(0, LEAST, (0, -16384))

    def test_both_signs(self):
        # 16384 * 3 / 5 is 9830.4, of 4 it is 13107.2; of a diagonal 11585.24.
        for x, y, right, up in ((3, 4, 9830, 13107), (4, 3, 13107, 9830), (30000, 40000, 9830, 13107),
                                (1, 1, 11585, 11585)):
            for way_x in (1, -1):
                for way_y in (1, -1):
                    self.check(way_x * x, way_y * y, (way_x * right, way_y * up))

    def test_the_nearest_not_the_one_below(self):
        # 16384 * 5 / 13 is 6301.54, of 12 it is 15123.69; of 1 / root 10 it is 5181.08, of 3 it is 15543.23.
        self.check(5, 12, (6302, 15124))
        self.check(-5, -12, (-6302, -15124))
        self.check(1, 3, (5181, 15543))

    def test_both_ends_of_32_bits(self):
        for x, y, wanted in ((LEAST, LEAST, (-11585, -11585)), (MOST, MOST, (11585, 11585)),
                             (LEAST, MOST, (-11585, 11585)), (MOST, LEAST, (11585, -11585)),
                             (MOST, 1, (16384, 0)), (LEAST, -1, (-16384, 0)), (1, MOST, (0, 16384)),
                             (-1, LEAST, (0, -16384)), (LEAST, 2 ** 30, (-14654, 7327))):
            self.check(x, y, wanted)

    def test_just_beside_a_half(self):
        # The root of MOST and 65536 is that of 2^62 + 1: so the second is a hair below a half.
        self.check(MOST, 65536, (16384, 0))
        self.check(MOST, 65537, (16384, 1))
        self.check(-65536, LEAST, (0, -16384))
        self.check(-65537, MOST, (-1, 16384))

    def test_nearest_over_many(self):
        source = random.Random(14)
        for turn in range(500):
            bits = source.choice([3, 8, 16, 24, 31])
            x, y = source.randrange(-2 ** bits, 2 ** bits), source.randrange(-2 ** bits, 2 ** bits)
            if (x, y) == (0, 0):
                continue
            squares = x * x + y * y
            for number, part in zip(told(unit(x, y))[0][1:], (x, y)):
                self.assertTrue(number * part > 0 or number == 0)
                asked = (2 * 16384 * part) ** 2
                self.assertLess(asked, (2 * abs(number) + 1) ** 2 * squares)
                self.assertTrue(number == 0 or (2 * abs(number) - 1) ** 2 * squares < asked)


class Rounded(unittest.TestCase):
    def check(self, how, byte, pairs):
        for number, wanted in pairs:
            self.assertEqual(told(rounded(how, byte, number)), [[0, wanted]], (how, byte, number))

    def both(self, how, byte, pairs):
        """The pairs, and with both signs turned."""
        self.check(how, byte, pairs)
        self.check(how, byte, [(-number, -wanted) for number, wanted in pairs if number > 0])

    def test_half(self):
        self.both(0, 0, [(0, 32), (1, 32), (31, 32), (63, 32), (64, 96), (127, 96), (128, 160)])
        self.check(0, 0, [(MOST, MOST - 31), (LEAST, MOST - 31), (LEAST + 1, -MOST + 31)])

    def test_grid(self):
        self.both(1, 0, [(0, 0), (1, 0), (31, 0), (32, 64), (64, 64), (95, 64), (96, 128)])
        self.check(1, 0, [(MOST, LEAST), (MOST - 31, LEAST), (MOST - 32, MOST - 63), (LEAST, LEAST), (LEAST + 1, LEAST),
                          (LEAST + 32, LEAST), (LEAST + 33, LEAST + 64)])

    def test_double(self):
        self.both(2, 0, [(0, 0), (15, 0), (16, 32), (47, 32), (48, 64), (79, 64), (80, 96)])
        self.check(2, 0, [(MOST, LEAST), (MOST - 15, LEAST), (MOST - 16, MOST - 31), (LEAST, LEAST),
                          (LEAST + 16, LEAST), (LEAST + 17, LEAST + 32)])

    def test_down(self):
        self.both(3, 0, [(0, 0), (1, 0), (63, 0), (64, 64), (127, 64), (128, 128)])
        self.check(3, 0, [(MOST, MOST - 63), (LEAST, LEAST), (LEAST + 1, LEAST + 64)])

    def test_up(self):
        self.both(4, 0, [(0, 0), (1, 64), (63, 64), (64, 64), (65, 128), (128, 128)])
        self.check(4, 0, [(MOST, LEAST), (MOST - 62, LEAST), (MOST - 63, MOST - 63), (LEAST, LEAST), (LEAST + 1, LEAST),
                          (LEAST + 64, LEAST + 64)])

    def test_off(self):
        self.both(5, 0, [(0, 0), (1, 1), (31, 31), (32, 32), (63, 63)])
        self.check(5, 0, [(MOST, MOST), (LEAST, LEAST), (LEAST + 1, LEAST + 1)])

    def test_above_7_it_is_off(self):
        for how in (8, 9, 14, 15, 16, 255, 256, 262, 65536, 2 ** 31, GREATEST - 1, GREATEST):
            for byte in (0, 0x48, GREATEST):
                self.check(how, byte, [(0, 0), (33, 33), (-33, -33), (MOST, MOST), (LEAST, LEAST)])

    def test_the_first_six_do_not_look_at_the_byte(self):
        for how in range(6):
            for number in (33, -33, 15, 16, 0):
                wanted = told(rounded(how, 0, number))
                for byte in (0x48, 0x7F, 255, GREATEST):
                    self.assertEqual(told(rounded(how, byte, number)), wanted)

    def test_by_a_byte_as_the_others(self):
        # Steps of 64 and a half of one is grid; with a phase of 32 half, nearly; steps of 32 and half of one, double.
        self.both(6, 0x48, [(0, 0), (31, 0), (32, 64), (95, 64), (96, 128)])
        self.both(6, 0x68, [(0, 32), (31, 32), (63, 32), (64, 96), (127, 96), (128, 160)])
        self.both(6, 0x08, [(0, 0), (15, 0), (16, 32), (47, 32), (48, 64)])
        self.both(6, 0x44, [(0, 0), (63, 0), (64, 64), (127, 64), (128, 128)])
        self.both(6, 0x40, [(0, 0), (1, 64), (64, 64), (65, 128)])
        self.both(6, 0x88, [(0, 0), (63, 0), (64, 128), (191, 128), (192, 256)])
        self.both(6, 0xC8, [(0, 0), (31, 0), (32, 64), (95, 64), (96, 128)])

    def test_phases_of_way_6(self):
        # The first step above 0 is f, and of what comes below 0 it is f too.
        for byte, phase, step in ((0x04, 0, 32), (0x14, 8, 32), (0x24, 16, 32), (0x34, 24, 32), (0x44, 0, 64),
                                  (0x54, 16, 64), (0x64, 32, 64), (0x74, 48, 64), (0x84, 0, 128), (0x94, 32, 128), (0xA4, 64, 128),
                                  (0xB4, 96, 128), (0xC4, 0, 64), (0xD4, 16, 64), (0xE4, 32, 64), (0xF4, 48, 64)):
            self.both(6, byte, [(0, phase), (phase, phase), (phase + step - 1, phase), (phase + step, phase + step),
                                (phase + 3 * step - 1, phase + 2 * step), (phase + 3 * step, phase + 3 * step)])

    def test_phases_of_way_7(self):
        # G is 5792, 11585, 23170, 11585: steps 22, 45, 90, 45, and quarters of G, gone down to 256ths.
        for byte, phase, step in ((0x04, 0, 22), (0x14, 5, 22), (0x24, 11, 22), (0x34, 16, 22), (0x44, 0, 45),
                                  (0x54, 11, 45), (0x64, 22, 45), (0x74, 33, 45), (0x84, 0, 90), (0x94, 22, 90), (0xA4, 45, 90),
                                  (0xB4, 67, 90), (0xC4, 0, 45), (0xD4, 11, 45), (0xE4, 22, 45), (0xF4, 33, 45)):
            self.both(7, byte, [(0, phase), (phase, phase), (phase + step - 1, phase), (phase + step, phase + step),
                                (phase + 3 * step - 1, phase + 2 * step), (phase + 3 * step, phase + 3 * step)])

    def test_thresholds(self):
        # By h the steps come earlier: at q - h and 2 q - h. Below 0 it goes down too: 45 * -3 / 8 is -16.97.
        for how, high, step, thresholds in (
                (6, 0x00, 32, (31, -12, -8, -4, 0, 4, 8, 12, 16, 20, 24, 28, 32, 36, 40, 44)),
                (6, 0x40, 64, (63, -24, -16, -8, 0, 8, 16, 24, 32, 40, 48, 56, 64, 72, 80, 88)),
                (6, 0x80, 128, (127, -48, -32, -16, 0, 16, 32, 48, 64, 80, 96, 112, 128, 144, 160, 176)),
                (7, 0x00, 22, (22, -9, -6, -3, 0, 2, 5, 8, 11, 14, 16, 19, 22, 25, 28, 31)),
                (7, 0x40, 45, (45, -17, -12, -6, 0, 5, 11, 16, 22, 28, 33, 39, 45, 50, 56, 62)),
                (7, 0x80, 90, (90, -34, -23, -12, 0, 11, 22, 33, 45, 56, 67, 79, 90, 101, 113, 124)),
                (7, 0xC0, 45, (45, -17, -12, -6, 0, 5, 11, 16, 22, 28, 33, 39, 45, 50, 56, 62))):
            for low, threshold in enumerate(thresholds):
                edge = 3 * step - threshold
                self.both(how, high + low, [(edge - 1, 2 * step), (edge, 3 * step), (edge + step - 1, 3 * step)])

    def test_below_0_it_is_the_phase(self):
        # Of byte 71 f is 48 and h -24: up to 48 + 24 the formula comes to -16 and less.
        self.both(6, 0x71, [(0, 48), (7, 48), (8, 48), (71, 48), (72, 48), (135, 48), (136, 112)])
        self.both(6, 0x41, [(0, 0), (23, 0), (24, 0), (87, 0), (88, 64)])
        self.both(7, 0x71, [(0, 33), (94, 33), (95, 78)])

    def test_the_low_8_bits_of_the_byte(self):
        for how in (6, 7):
            for byte in (0x00, 0x48, 0x71, 0xBF, 0xFF):
                for number in (0, 1, -1, 31, 32, 77, -500, MOST, LEAST):
                    wanted = told(rounded(how, byte, number))
                    for above in (256, 512, 65536, 2 ** 31, GREATEST - 255):
                        self.assertEqual(told(rounded(how, byte + above, number)), wanted, (how, byte, above, number))

    def test_by_a_byte_at_both_ends_of_32_bits(self):
        self.check(6, 0x48, [(MOST, LEAST), (MOST - 32, MOST - 63), (LEAST, LEAST), (LEAST + 33, LEAST + 64)])
        # Of a size of 2^31, as a multiple of 128 and 64 more: the sign is put back, and then it's cut.
        self.check(6, 0xA4, [(MOST, MOST - 63), (LEAST, LEAST + 64), (LEAST + 1, -MOST + 63)])
        self.check(6, 0x68, [(MOST, MOST - 31), (LEAST, MOST - 31)])
        # 2^31 is 45 * 47721858 + 38: with h 22 it comes to 45 * 47721859, 7 above 2^31.
        self.check(7, 0x48, [(MOST, LEAST + 7), (LEAST, MOST - 6), (MOST - 14, LEAST + 7), (MOST - 15, MOST - 37)])
        self.check(7, 0x44, [(MOST, MOST - 37), (LEAST, LEAST + 38)])


class Along(unittest.TestCase):
    def check(self, wanted, *numbers):
        self.assertEqual(told(along(*numbers)), [[0, wanted]], numbers)

    def test_axes(self):
        for number in (0, 1, -1, 77, MOST, LEAST):
            self.check(number, 16384, 0, number, 5)
            self.check(number, 0, 16384, 5, number)
            self.check(0, 0, 0, number, number)
        self.check(-77, -16384, 0, 77, 5)
        self.check(LEAST, -16384, 0, LEAST, 5)

    def test_of_two_equally_near_the_greater(self):
        self.check(1, 8192, 0, 1, 0)
        self.check(0, 8192, 0, -1, 0)
        self.check(0, 0, -8192, 0, 1)
        self.check(2, 0, 8192, 0, 3)
        self.check(-1, 8192, 0, -3, 0)

    def test_the_nearest(self):
        self.check(0, 1, 0, 8191, 0)
        self.check(1, 1, 0, 8192, 0)
        self.check(0, 0, 1, 0, -8192)
        self.check(-1, 0, 1, 0, -8193)
        self.check(13, 9830, 13107, 10, 9)
        self.check(-1, 9830, 13107, 10, -9)

    def test_both_are_added_before_going_to_the_nearest(self):
        self.check(1, 4096, 4096, 1, 1)
        self.check(1, 8192, 8192, 1, 1)
        self.check(0, 8191, -8192, 1, 1)

    def test_both_ends(self):
        self.check(0, -32768, -32768, LEAST, LEAST)
        self.check(-262148, 32767, 32767, MOST, MOST)
        self.check(2, -32768, 0, MOST, 0)
        self.check(2, 0, -32768, 0, MOST)
        self.check(0, -32768, 0, LEAST, 0)
        self.check(131072, 32767, 0, LEAST, 7)
        self.check(131072, 0, 32767, 0, LEAST)
        # 32767 of MOST is 2 of it less a 16384th of it: 2^32 - 2 - 131072 + a bit.
        self.check(-131074, 32767, 0, MOST, 0)
        self.check(-131074, 0, 32767, 0, MOST)

    def test_a_sum_that_is_cut(self):
        self.check(LEAST, 16384, 16384, MOST, 1)
        self.check(MOST, 16384, -16384, LEAST, 1)
        self.check(-1, 16384, -16384, MOST, LEAST)
        self.check(-1, 16384, 16384, MOST, LEAST)
        self.check(-2, 16384, 16384, MOST, MOST)
        self.check(0, 16384, 16384, LEAST, LEAST)
        self.check(LEAST, -16384, 0, LEAST, 0)

    def test_what_is_within_is_not_cut(self):
        self.check(0, 32767, -32767, MOST, MOST)
        self.check(0, -32768, 32767, 0, 0)
        # x and y are 1 together, though each product alone is far above 32 bits.
        self.check(-2, -32768, -32768, MOST, LEAST + 2)


class Time(unittest.TestCase):
    def test_unit_rounded_and_along_need_nothing_and_change_nothing(self):
        asked = [unit(3, 4), rounded(1, 0, 33), along(16384, 0, 5, 6)]
        wanted = [[0, 9830, 13107], [0, 64], [0, 5]]
        self.assertEqual(told(*asked), wanted)
        begun = setting(twilight=1, cells=1, controls=[8]) + [shape(DOT, [0], push(0) + [ROUND_POINT])]
        after = [points(0), points(1), state(), get(CONTROL, 0), shape(DOT, [0], push(0) + [0x3E])]
        for call in asked:
            self.assertEqual(told(*begun, call, *after)[6:], told(*begun, *after)[5:])


class AllEleven(unittest.TestCase):
    CALLS = (get(0, 0), state(), init(15), init(64, 1, 2), get(CELL, 1), get(CELL, 2), values([7] * 65), values([100]),
             font([0x28]), font(function(5, push(0, 41) + [SET_CELL])), shape(DOT, [0], []), points(1),
             size(1001, []), size(2, push(5) + [CALL] + push(70) + [SET_LEAST]), get(CELL, 0), get(CONTROL, 0), state(),
             size(3, push(0, 9) + [SET_CELL, 0x21]), get(CELL, 0), state(), points(0),
             shape(DOT, [0], push(0) + [ROUND_POINT]), shape(DOT, [1], []), shape(DOT, [0], push(1) + [ROUND_POINT]),
             points(0), points(1), points(2), get(OLD_X, 0), get(OLD_Y, 1), get(4, 0),
             unit(-3, 4), rounded(0, 0, -1), along(-16384, 0, 6, 7), state())
    WANTED = [[-1], [-2], [-1], [0], [-2], [-1], [-1], [0],
              [-5, 5, 0, 1, 0x28, 0], [0], [-2], [-2],
              [-1], [0], [0, 41], [0, 200], [0, 70, 68, 0, 0, 9, 3, 1, 0, 0, 2],
              [-5, 1, 7, 0, 0x21, 3], [0, 41], [0, 70, 68, 0, 0, 9, 3, 1, 0, 0, 2], [-2],
              [0], [-1], [-5, 3, 3, 0, 0x2F, 1],
              [0, 1, 0, 0, 0], [0, 1, 0, 40, 3], [-1], [0, 0], [-1], [-1],
              [0, -9830, 13107], [0, -32], [0, -6], [0, 70, 68, 0, 0, 9, 3, 1, 0, 0, 2]]

    def test_in_one_list_with_refusals_between(self):
        self.assertEqual({call[0] for call in self.CALLS}, set(range(11)))
        self.assertEqual(told(*self.CALLS), self.WANTED)

    def test_without_the_refusals_the_others_answer_the_same(self):
        good = [call for call, wanted in zip(self.CALLS, self.WANTED) if wanted[0] == 0]
        self.assertEqual(told(*good), [wanted for wanted in self.WANTED if wanted[0] == 0])

    def test_the_list_stays_and_answers_the_same_again(self):
        calls = [number for call in self.CALLS for number in call]
        before = list(calls)
        first = answers(calls)
        self.assertEqual(calls, before)
        self.assertEqual(answers(calls), first)
        self.assertEqual(first, [number for wanted in self.WANTED for number in [len(wanted)] + wanted])
        for number in first:
            self.assertIs(type(number), int)

    def test_no_calls(self):
        self.assertEqual(answers([]), [])

    def test_four_hundred_of_each_that_asks(self):
        for call, answer in ((get(0, 0), [1, -1]), (state(), [1, -2]), (unit(0, 0), [3, 0, 16384, 0]),
                             (rounded(1, 0, 32), [2, 0, 64]), (along(0, 16384, 1, 2), [2, 0, 2])):
            self.assertEqual(answers(call * 400), answer * 400)


if __name__ == "__main__":
    unittest.main()
