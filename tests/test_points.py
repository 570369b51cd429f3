"""Points: measuring, moving, carrying along, deltas."""

import unittest

from tests.helper import (LEAST, MOST, answer_of_shape, fitted, init, points, push, shape, size, stack_behind, told,
                          values, zones)

SET_PLACE = 0x48
ALL_ZONES = 0x16
FOUR = [(10, 20, 1), (110, 20, 0), (110, 220, 1), (10, 220, 0)]
SLANT = push(3, 4) + [0x0A]
SLANT_FREE = push(3, 4) + [0x0B]


def fault_number(code, outline=FOUR, ends=(3,), **others):
    answer = answer_of_shape(outline, code, ends, **others)
    return answer[1] if answer[0] == -5 else 0


def twilight(number, place):
    """Code that puts a point of zone 0 on this place of the x axis; afterwards z2 is 1 again."""
    return push(0) + [0x15] + push(number, place) + [SET_PLACE] + push(1) + [0x15]


# Of each instruction: what it takes (z0, z1 or z2 for a point of that zone, else a number), and the reference
# points that it uses, each with its zone.
USES = (
    [(byte, ("z1", "z2"), ()) for byte in (0x06, 0x07, 0x08, 0x09, 0x86, 0x87)]
    + [(byte, ("z2",), ()) for byte in (0x46, 0x47)] + [(0x48, ("z2", 5), ())]
    + [(byte, ("z0", "z1"), ()) for byte in (0x49, 0x4A)]
    + [(byte, ("z0",), ()) for byte in (0x29, 0x2E, 0x2F)]
    + [(byte, ("z0", 0), ()) for byte in (0x3E, 0x3F)]
    + [(byte, ("z1",), (("r0", "z0"),)) for byte in (0xC0, 0xCC, 0xDF)]
    + [(byte, ("z1", 0), (("r0", "z0"),)) for byte in (0xE0, 0xEC, 0xFF)]
    + [(byte, ("z1", 5), (("r0", "z0"),)) for byte in (0x3A, 0x3B)]
    + [(0x3C, ("z1",), (("r0", "z0"),)), (0x27, ("z1", "z0"), ())]
    + [(0x39, ("z2",), (("r1", "z0"), ("r2", "z1")))]
    + [(0x32, ("z2",), (("r2", "z1"),)), (0x33, ("z2",), (("r1", "z0"),))]
    + [(0x34, (0,), (("r2", "z1"),)), (0x35, (0,), (("r1", "z0"),))]
    + [(0x36, (1,), (("r2", "z1"),)), (0x37, (1,), (("r1", "z0"),))]
    + [(0x38, ("z2", 5), ()), (0x0F, ("z2", "z1", "z1", "z0", "z0"), ())]
    + [(byte, (8, "z0", 1), ()) for byte in (0x5D, 0x71, 0x72)]
)
POINTER_BYTES = {"z0": 0x13, "z1": 0x14, "z2": 0x15}
REFERENCE_BYTES = {"r0": 0x10, "r1": 0x11, "r2": 0x12}


class WhichZone(unittest.TestCase):
    """Zone 0 has three points and zone 1 has one: point 2 is there just where the right pointer says 0."""

    def number(self, pointers, before, code):
        for pointer in pointers:
            before = before + push(0) + [POINTER_BYTES[pointer]]
        return fault_number(before + code, [(5, 6, 0)], (0,), twilight=3, controls=[1])

    def check(self, pointer, before, code, byte):
        others = [name for name in POINTER_BYTES if name != pointer]
        self.assertEqual(self.number([pointer], before, code), 0, (hex(byte), pointer))
        self.assertEqual(self.number(others, before, code), 3, (hex(byte), pointer))

    def test_taken_points(self):
        for byte, takes, used in USES:
            for place, pointer in enumerate(takes):
                if pointer in POINTER_BYTES:
                    numbers = [0 if number in POINTER_BYTES else number for number in takes]
                    numbers[place] = 2
                    self.check(pointer, [], push(*numbers) + [byte], byte)

    def test_reference_points(self):
        for byte, takes, used in USES:
            numbers = [0 if number in POINTER_BYTES else number for number in takes]
            for reference, pointer in used:
                self.check(pointer, push(2) + [REFERENCE_BYTES[reference]], push(*numbers) + [byte], byte)
            for reference in REFERENCE_BYTES:
                if reference not in [name for name, pointer in used]:
                    code = push(2) + [REFERENCE_BYTES[reference]] + push(*numbers) + [byte]
                    self.assertEqual(self.number([], [], code), 0, (hex(byte), reference))

    def test_marks_are_of_zone_1(self):
        for code in (push(2) + [0x80], push(0, 2) + [0x81], push(0, 2) + [0x82]):
            self.assertEqual(self.number(POINTER_BYTES, [], code), 3)


class WhichReference(unittest.TestCase):
    """r0, r1, r2 are points 0, 1, 2, all at other places, and moved in other ways."""

    LINE = [(1000, 0, 0), (2000, 0, 0), (4000, 0, 0), (5000, 0, 0)]
    BEGIN = (push(0, 1001) + [SET_PLACE] + push(1, 2010) + [SET_PLACE] + push(2, 4300) + [SET_PLACE]
             + push(1) + [0x11] + push(2) + [0x12])

    def place(self, code):
        return fitted(self.LINE, self.BEGIN + code, [3], controls=[700])[3][0]

    def test_each(self):
        self.assertEqual(self.place(push(3) + [0xC0]), 5001)
        self.assertEqual(self.place(push(3) + [0xC4]), 1001 + 4032)
        self.assertEqual(self.place(push(3, 0) + [0xE0]), 1701)
        self.assertEqual(self.place(push(3, 0) + [0xE4]), 1001 + 4032)
        self.assertEqual(self.place(push(3, 9) + [0x3A]), 1010)
        self.assertEqual(self.place(push(3) + [0x3C]), 1001)
        self.assertEqual(self.place(push(3) + [0x32]), 5300)
        self.assertEqual(self.place(push(3) + [0x33]), 5010)
        # From 2000 .. 4000 to 2010 .. 4300.
        self.assertEqual(self.place(push(3) + [0x39]), 2010 + 3435)
        self.assertEqual(self.place(push(0) + [0x34]), 5300)
        self.assertEqual(self.place(push(1) + [0x37]), 5010)


class Measuring(unittest.TestCase):
    def test_places(self):
        self.assertEqual(stack_behind(push(1) + [0x46] + push(1) + [0x47], outline=FOUR), [110, 110])
        self.assertEqual(stack_behind([0x00] + push(2) + [0x46], outline=FOUR), [220])
        self.assertEqual(stack_behind(SLANT + push(2) + [0x46], outline=FOUR), [242])
        moved = push(1, 150) + [SET_PLACE]
        self.assertEqual(stack_behind(moved + push(1) + [0x46] + push(1) + [0x47], outline=FOUR), [150, 110])

    def test_old_places_go_by_the_old_projection(self):
        # Q becomes (0.6, 0.8) by original places, P the x axis by places now.
        outline = [(0, 0, 0), (30, 40, 0)]
        turn = [0x00] + push(1, 0) + [SET_PLACE, 0x01] + push(1, 0) + [0x86]
        self.assertEqual(stack_behind(turn + push(1) + [0x46] + push(1) + [0x47], outline=outline), [30, 50])
        self.assertEqual(stack_behind(turn + push(1, 0) + [0x49] + push(1, 0) + [0x4A], outline=outline), [30, 50])

    def test_distances(self):
        moved = push(1, 150) + [SET_PLACE]
        self.assertEqual(stack_behind(moved + push(1, 0) + [0x49] + push(1, 0) + [0x4A], outline=FOUR), [140, 100])
        self.assertEqual(stack_behind(push(0, 1) + [0x49], outline=FOUR), [-100])
        self.assertEqual(stack_behind([0x00] + push(3, 0) + [0x4A], outline=FOUR), [200])

    def test_distances_between_zones(self):
        code = twilight(1, 300)
        for asked, expected in ((push(0) + [0x13] + push(1, 0), 290), (push(0) + [0x14] + push(0, 1), -290)):
            for byte in (0x49, 0x4A):
                self.assertEqual(stack_behind(code + asked + [byte], outline=FOUR, twilight=2), [expected])

    def test_to_the_nearest_and_cut(self):
        outline = [(0, 0, 0)]
        half = push(1, 1) + [0x0A]
        # 11585 / 16384 = 0.7071: 5 and -5 come to 3.54 and -3.54.
        self.assertEqual(stack_behind(half + push(0) + [0x46], outline=[(5, 0, 0)]), [4])
        self.assertEqual(stack_behind(half + push(0) + [0x46], outline=[(-5, 0, 0)]), [-4])
        far = push(0, LEAST) + [SET_PLACE] + push(1, MOST) + [SET_PLACE]
        self.assertEqual(stack_behind(far + push(1, 0) + [0x49], outline=outline * 2), [-1])
        self.assertEqual(stack_behind(far + push(0, 1) + [0x49], outline=outline * 2), [1])
        # 4294967295 * 11585 / 16384 = 3036938239.3, cut.
        self.assertEqual(stack_behind(far + half + push(1, 0) + [0x49], outline=outline * 2), [-1258029057])

    def test_ranges(self):
        for byte in (0x46, 0x47):
            self.assertEqual(fault_number(push(4) + [byte]), 3)
            self.assertEqual(fault_number(push(-1) + [byte]), 3)
            self.assertEqual(fault_number([byte]), 1)
        for byte in (0x49, 0x4A):
            self.assertEqual(fault_number(push(4, 0) + [byte]), 3)
            self.assertEqual(fault_number(push(0, 4) + [byte]), 3)
            self.assertEqual(fault_number(push(4) + [byte]), 1)


class SettingPlaces(unittest.TestCase):
    def test_on_the_axes(self):
        self.assertEqual(fitted(FOUR, push(1, -7) + [SET_PLACE])[1], (-7, 20, 2))
        self.assertEqual(fitted(FOUR, [0x00] + push(1, -7) + [SET_PLACE])[1], (110, -7, 4))

    def test_slanting(self):
        # Projected on (0.6, 0.8) the place is 82; 18 more need 30 on x alone.
        self.assertEqual(fitted(FOUR, SLANT + push(1, 100) + [SET_PLACE])[1], (140, 20, 2))
        # Moved on (0.6, 0.8), projected on x: 60 more on x, and 80 on y.
        self.assertEqual(fitted(FOUR, SLANT_FREE + push(1, 170) + [SET_PLACE])[1], (170, 100, 6))

    def test_at_right_angles(self):
        # The vectors are taken for one: by 10 on y.
        self.assertEqual(fitted(FOUR, [0x04] + push(1, 120) + [SET_PLACE])[1], (110, 30, 4))

    def test_nearly_at_right_angles(self):
        # P is (1024, 16352): t on x is 2^24, so that 1 becomes 16; with (1023, 16352) it is below, and 1 becomes 1.
        outline = [(0, 0, 0)]
        for x, expected in ((1024, 16), (1023, 1)):
            code = push(x, 16352) + [0x0A, 0x0C]
            self.assertEqual(stack_behind(code, outline=outline)[0], x)
            self.assertEqual(fitted(outline, push(x, 16352) + [0x0A] + push(0, 1) + [SET_PLACE])[0], (expected, 0, 2))
            self.assertEqual(fitted(outline, push(-x, 16352) + [0x0A] + push(0, 1) + [SET_PLACE])[0],
                             (-16 if x == 1024 else 1, 0, 2))

    def test_in_zone_0_the_original_place_goes_along(self):
        code = push(0) + [ALL_ZONES] + push(0, 40) + [SET_PLACE]
        self.assertEqual(zones([], code, twilight=1)[0], [(40, 0, 2)])
        self.assertEqual(stack_behind(code + push(0) + [0x47], twilight=1), [40])
        self.assertEqual(stack_behind(push(1, 150) + [SET_PLACE] + push(1) + [0x47], outline=FOUR), [110])

    def test_over_the_edge(self):
        self.assertEqual(fitted(FOUR, push(0, LEAST) + [SET_PLACE])[0], (LEAST, 20, 3))
        self.assertEqual(fitted(FOUR, push(0, LEAST) + [SET_PLACE] + push(0, MOST) + [SET_PLACE])[0], (MOST, 20, 3))

    def test_what_it_is_moved_by_is_not_cut(self):
        # MOST - LEAST = 2^32 - 1 on (0.6, 0.8), projected on x: 9830 x / 9830 and 13107 x / 9830, cut.
        code = push(0, LEAST) + [SET_PLACE] + SLANT_FREE + push(0, MOST) + [SET_PLACE]
        y = ((2 ** 32 - 1) * 13107 * 2 + 9830) // (2 * 9830)
        self.assertEqual(fitted([(0, 0, 0)], code)[0], (MOST, (y + 2 ** 31) % 2 ** 32 - 2 ** 31, 6))

    def test_at_right_angles_by_much(self):
        code = [0x04] + push(0, 2 ** 30) + [SET_PLACE] + push(1, -2 ** 30) + [SET_PLACE]
        self.assertEqual(fitted([(0, 0, 0), (0, 0, 0)], code), [(0, 2 ** 30, 4), (0, -2 ** 30, 4)])

    def test_over_the_edge_on_y(self):
        code = [0x00] + push(0, MOST) + [SET_PLACE] + push(0, 9) + [0x38]
        self.assertEqual(fitted([(0, 0, 0)], code)[0], (0, LEAST + 8, 4))

    def test_ranges(self):
        self.assertEqual(fault_number(push(4, 0) + [SET_PLACE]), 3)
        self.assertEqual(fault_number(push(4) + [SET_PLACE]), 1)


class Marks(unittest.TestCase):
    def marks(self, code, **others):
        return [point[2] for point in fitted(FOUR, code, **others)]

    def test_change(self):
        self.assertEqual(self.marks(push(0) + [0x80]), [0, 0, 1, 0])
        self.assertEqual(self.marks(push(0, 1, 1, 3, 4) + [0x17, 0x80]), [0, 0, 1, 1])
        self.assertEqual(self.marks(push(0) + [ALL_ZONES] + push(1) + [0x80], twilight=1), [1, 1, 1, 0])

    def test_set_and_unset(self):
        self.assertEqual(self.marks(push(0, 3) + [0x81]), [1, 1, 1, 1])
        self.assertEqual(self.marks(push(1, 2) + [0x82]), [1, 0, 0, 0])
        self.assertEqual(self.marks(push(3, 3) + [0x81]), [1, 0, 1, 1])
        self.assertEqual(self.marks(push(3, 0) + [0x81]), [1, 0, 1, 0])
        self.assertEqual(self.marks(push(3, 0) + [0x82]), [1, 0, 1, 0])
        self.assertEqual(self.marks(push(0) + [0x2E] + push(0, 1) + [0x82]), [2, 0, 1, 0])
        self.assertEqual(self.marks(push(0) + [ALL_ZONES] + push(0, 1) + [0x81], twilight=1), [1, 1, 1, 0])

    def test_ranges(self):
        self.assertEqual(fault_number(push(4) + [0x80]), 3)
        self.assertEqual(fault_number([0x80]), 1)
        for byte in (0x81, 0x82):
            for first, last in ((0, 4), (4, 0), (4, 4), (-1, 2), (0, -1), (5, 4)):
                self.assertEqual(fault_number(push(first, last) + [byte]), 3)
            self.assertEqual(fault_number(push(4) + [byte]), 1)

    def test_untouch(self):
        both = push(0) + [0x2E, 0x00] + push(0) + [0x2E]
        self.assertEqual(self.marks(both)[0], 7)
        self.assertEqual(self.marks(both + push(0) + [0x29])[0], 3)
        self.assertEqual(self.marks(both + [0x01] + push(0) + [0x29])[0], 5)
        self.assertEqual(self.marks(both + SLANT_FREE + push(0) + [0x29])[0], 1)
        self.assertEqual(self.marks(push(0) + [0x29])[0], 1)
        self.assertEqual(fault_number(push(4) + [0x29]), 3)
        self.assertEqual(fault_number([0x29]), 1)
        code = push(0) + [ALL_ZONES] + push(0) + [0x2E] + push(0) + [0x29]
        self.assertEqual(zones([], code, twilight=1)[0], [(0, 0, 0)])


class Anchoring(unittest.TestCase):
    def test_touch(self):
        self.assertEqual(fitted(FOUR, push(1) + [0x2E])[1], (110, 20, 2))
        self.assertEqual(fitted(FOUR, SLANT_FREE + push(1) + [0x2E])[1], (110, 20, 6))

    def test_round(self):
        self.assertEqual(fitted(FOUR, push(1) + [0x2F])[1], (128, 20, 2))
        self.assertEqual(fitted(FOUR, [0x00] + push(1) + [0x2F])[1], (110, 0, 4))
        self.assertEqual(fitted(FOUR, [0x19, 0x00] + push(1) + [0x2F])[1], (110, 32, 4))
        self.assertEqual(fitted([(-40, 0, 0)], push(0) + [0x2F])[0], (-64, 0, 2))
        # Projected on (0.6, 0.8) point 1 is at 82, and goes to 64: 30 less on x.
        self.assertEqual(fitted(FOUR, SLANT + push(1) + [0x2F])[1], (80, 20, 2))

    def test_over_the_edge(self):
        self.assertEqual(fitted([(0, 0, 0)], push(0, MOST) + [SET_PLACE] + push(0) + [0x2F])[0], (LEAST, 0, 2))

    def test_what_is_rounded_is_cut(self):
        # MOST comes to LEAST: moved by 1 - 2^32, so on y by that times 13107 / 9830.
        found = fitted([(0, 0, 0)], push(0, MOST) + [SET_PLACE] + SLANT_FREE + push(0) + [0x2F])[0]
        y = (2 * (1 - 2 ** 32) * 13107 + 9830) // (2 * 9830)
        self.assertEqual(found, (LEAST, (y + 2 ** 31) % 2 ** 32 - 2 ** 31, 6))

    def test_reference_points(self):
        # Then 3C shows r0, 33 r1, and 32 that r2 is still 0.
        for byte in (0x2E, 0x2F):
            begun = [0x7A] + push(2, 140) + [SET_PLACE] + push(2) + [byte]
            self.assertEqual(fitted(FOUR, begun + push(3) + [0x3C])[3][0], 140)
            self.assertEqual(fitted(FOUR, begun + push(3) + [0x33])[3][0], 40)
            self.assertEqual(fitted(FOUR, begun + push(3) + [0x32])[3][0], 10)

    def test_zone_0(self):
        code = twilight(0, 40) + push(0) + [0x13] + push(0) + [0x2F]
        self.assertEqual(zones([], code, twilight=1)[0], [(64, 0, 2)])

    def test_ranges(self):
        for byte in (0x2E, 0x2F):
            self.assertEqual(fault_number(push(4) + [byte]), 3)
            self.assertEqual(fault_number([byte]), 1)


class ToControls(unittest.TestCase):
    def test_as_it_is(self):
        self.assertEqual(fitted(FOUR, push(1, 1) + [0x3E], controls=[0, 500])[1], (500, 20, 2))
        self.assertEqual(fitted(FOUR, [0x00] + push(1, 1) + [0x3E], controls=[0, -500])[1], (110, -500, 4))

    def test_rounded_within_the_cut_in(self):
        for control, x in ((178, 192), (179, 128), (42, 64), (41, 128), (110, 128), (-900, 128)):
            self.assertEqual(fitted(FOUR, push(1, 0) + [0x3F], controls=[control])[1], (x, 20, 2), control)

    def test_the_cut_in_is_compared_without_cutting(self):
        # The control value is MOST, the place LEAST: 2^32 - 1 apart, not -1.
        code = push(0, MOST) + [0x44] + push(0, LEAST) + [SET_PLACE] + push(0, 0) + [0x3F]
        self.assertEqual(fitted([(0, 0, 0)], code, controls=[0])[0], (LEAST, 0, 2))

    def test_a_control_value_of_font_units_is_cut(self):
        # Eight times 2^31 - 1 is 2^34 - 8, cut to -8: within the cut-in of a point at 0.
        code = push(0, MOST) + [0x70] + push(0, 0) + [0x3F]
        found = told(init(2048), values([0]), size(256), shape([(0, 0, 0)], [], code), points(1))
        self.assertEqual(found[-1], [0, 1, 0, 0, 2])
        found = told(init(2048), values([0]), size(256), shape([(0, 0, 0)], [], [0x7A] + code), points(1))
        self.assertEqual(found[-1], [0, 1, -8, 0, 2])

    def test_a_control_value_that_grew_is_cut(self):
        # MOST + 8 is LEAST + 7; from LEAST + 94 that is within a cut-in of 100.
        code = (push(0, MOST) + [0x44] + push(8, 0, 1) + [0x73] + push(100) + [0x1D] + push(0, LEAST + 94)
                + [SET_PLACE] + push(0, 0) + [0x3F])
        self.assertEqual(fitted([(0, 0, 0)], code, controls=[0], dots=9)[0], (LEAST, 0, 2))

    def test_in_zone_0_it_is_put_on_both_axes(self):
        # A point that was at (7, 9) is put at (50, 0).
        place = push(0) + [ALL_ZONES] + push(1, 7) + [SET_PLACE, 0x00] + push(1, 9) + [SET_PLACE, 0x01]
        for code in (push(1, 0) + [0x3E], push(1, 0) + [0xE0], push(1, 50) + [0x3A]):
            self.assertEqual(zones([], place + code, twilight=2, controls=[50])[0][1], (50, 0, 6))
            code = place + code + push(1) + [0x47, 0x00] + push(1) + [0x47]
            self.assertEqual(stack_behind(code, twilight=2, controls=[50]), [50, 0])

    def test_in_zone_0(self):
        for byte, x in ((0x3E, 50), (0x3F, 64)):
            code = push(0) + [0x13] + push(1, 0) + [byte]
            self.assertEqual(zones([], code, twilight=2, controls=[50])[0], [(0, 0, 0), (x, 0, 2)])
            # Its original place is the control value's, unrounded.
            code += push(0) + [0x15] + push(1) + [0x47]
            self.assertEqual(stack_behind(code, twilight=2, controls=[50]), [50])

    def test_in_zone_0_along_the_freedom_vector(self):
        # Put at (60, 80); then moved by 100 - 60 on x, which is (40, 53.3).
        code = SLANT_FREE + push(0) + [0x13] + push(0, 0) + [0x3E]
        self.assertEqual(zones([], code, twilight=1, controls=[100])[0], [(100, 133, 6)])

    def test_reference_points(self):
        for byte in (0x3E, 0x3F):
            begun = [0x7A] + push(2, 0) + [byte]
            for use, x in ((0x3C, 140), (0x33, 40), (0x32, 10)):
                self.assertEqual(fitted(FOUR, begun + push(3) + [use], controls=[140])[3][0], x)

    def test_ranges(self):
        for byte in (0x3E, 0x3F):
            self.assertEqual(fault_number(push(4, 0) + [byte], controls=[1]), 3)
            self.assertEqual(fault_number(push(0, 1) + [byte], controls=[1]), 3)
            self.assertEqual(fault_number(push(0, -1) + [byte], controls=[1]), 3)
            self.assertEqual(fault_number(push(9) + [byte], controls=[1]), 1)


class ByOriginalDistance(unittest.TestCase):
    LINE = [(0, 0, 0), (100, 0, 0), (-100, 0, 0), (10, 0, 0), (-10, 0, 0), (0, 0, 0)]

    def place(self, byte, number, code=(), **others):
        found = fitted(self.LINE, list(code) + push(number) + [byte], **others)
        self.assertEqual(found[number][2], 2)
        return found[number][0]

    def test_bits(self):
        moved = push(0, 1000) + [SET_PLACE]
        for low in (0, 1, 2, 3, 16, 19):
            for number, plain, rounded, least, both in (
                    (1, 1100, 1128, 1100, 1128), (2, 900, 872, 900, 872), (3, 1010, 1000, 1064, 1064),
                    (4, 990, 1000, 936, 936), (5, 1000, 1000, 1064, 1064)):
                self.assertEqual(self.place(0xC0 + low, number, moved), plain)
                self.assertEqual(self.place(0xC4 + low, number, moved), rounded)
                self.assertEqual(self.place(0xC8 + low, number, moved), least)
                self.assertEqual(self.place(0xCC + low, number, moved), both)

    def test_single_width(self):
        single = push(90, 11) + [0x1E, 0x1F]
        self.assertEqual(self.place(0xC0, 1, single), 90)
        self.assertEqual(self.place(0xC0, 2, single), -100)
        self.assertEqual(self.place(0xC4, 1, single), 64)
        # So wide a cut-in that a distance below 0 is within it too.
        wide = push(90, 1000) + [0x1E, 0x1F]
        self.assertEqual(self.place(0xC0, 2, wide), -90)
        self.assertEqual(self.place(0xC0, 5, wide), 90)
        self.assertEqual(self.place(0xC8, 2, push(5, 1000) + [0x1E, 0x1F]), -64)

    def test_a_single_width_at_the_edge(self):
        # Minus LEAST is cut to LEAST, whose half is - (2^31 + 32), cut.
        code = [0x19] + push(LEAST, MOST) + [0x1E, 0x1F]
        self.assertEqual(self.place(0xC4, 2, code), MOST - 31)

    def test_a_distance_just_below_0(self):
        outline = [(0, 0, 0), (-1, 0, 0)]
        self.assertEqual(fitted(outline, push(1) + [0xC8])[1][0], -64)
        self.assertEqual(fitted(outline, push(90, 1000) + [0x1E, 0x1F] + push(1) + [0xC0])[1][0], -90)

    def test_a_single_width_of_0(self):
        self.assertEqual(self.place(0xC0, 3, push(11) + [0x1E]), 0)
        self.assertEqual(self.place(0xC0, 3, push(10) + [0x1E]), 10)

    def test_a_single_width_below_0(self):
        wide = push(-90, 1000) + [0x1E, 0x1F]
        self.assertEqual(self.place(0xC0, 1, wide), -90)
        # e has become 90 then: it is this whose sign decides.
        self.assertEqual(self.place(0xC0, 2, wide), 90)
        self.assertEqual(self.place(0xC8, 1, wide), -90)
        self.assertEqual(self.place(0xC8, 2, push(-30, 1000) + [0x1E, 0x1F]), 64)

    def test_a_least_distance_below_0(self):
        self.assertEqual(self.place(0xC8, 1, push(-5) + [0x1A]), 100)
        self.assertEqual(self.place(0xC8, 2, push(LEAST) + [0x1A]), -100)
        self.assertEqual(self.place(0xC8, 1, push(LEAST) + [0x1A]), 100)

    def test_reference_points(self):
        outline = [(0, 0, 0), (100, 0, 0), (300, 0, 0)]
        # Point 0 is moved by 7, point 1 by 9: it is where r0 + 109 would be.
        for byte, r0 in ((0xC0, 7), (0xD0, 107), (0xC3, 7), (0xD3, 107)):
            begun = push(0, 7) + [SET_PLACE] + push(1) + [byte]
            self.assertEqual(fitted(outline, begun + push(2) + [0x3C])[2][0], r0)
            # r1 is what r0 was before.
            begun = push(1) + [0x10] + push(1, 109) + [SET_PLACE] + push(0) + [byte] + push(0, 0) + [SET_PLACE]
            self.assertEqual(fitted(outline, begun + push(2) + [0x33])[2][0], 309)
            begun = push(1) + [byte] + push(1, 150) + [SET_PLACE]
            self.assertEqual(fitted(outline, begun + push(2) + [0x32])[2][0], 350)

    def test_zones(self):
        # r0 in zone 0, the point in zone 1; and the other way round.
        code = twilight(0, 50) + push(0) + [0x13] + push(1) + [0xC4]
        self.assertEqual(fitted(self.LINE, code, twilight=1)[1], (50 + 64, 0, 2))
        code = twilight(0, 50) + push(0) + [0x14] + push(0) + [0xC4]
        self.assertEqual(zones(self.LINE, code, twilight=1)[0], [(64, 0, 2)])

    def test_old_projection(self):
        # Q is (0.6, 0.8) and P the x axis: the original distance of (30, 40) is 50.
        outline = [(0, 0, 0), (30, 40, 0)]
        turn = [0x00] + push(1, 0) + [SET_PLACE, 0x01] + push(1, 0) + [0x86]
        self.assertEqual(fitted(outline, turn + push(1) + [0xC0])[1], (50, 0, 6))

    def test_ranges(self):
        for byte in (0xC0, 0xDF):
            self.assertEqual(fault_number(push(4) + [byte]), 3)
            self.assertEqual(fault_number(push(4) + [0x10] + push(0) + [byte]), 3)
            self.assertEqual(fault_number([byte]), 1)


class ByControlDistance(unittest.TestCase):
    LINE = [(0, 0, 0), (100, 0, 0), (-100, 0, 0), (10, 0, 0)]

    def place(self, byte, number, control, code=(), **others):
        found = fitted(self.LINE, list(code) + push(number, 0) + [byte], controls=[control], **others)
        self.assertEqual(found[number][2], 2)
        return found[number][0]

    def test_bits(self):
        moved = push(0, 1000) + [SET_PLACE]
        for low in (0, 1, 2, 3, 16, 19):
            for number, control, plain, rounded, least, both in (
                    (1, 120, 1120, 1128, 1120, 1128), (1, 168, 1168, 1192, 1168, 1192),
                    (1, 169, 1169, 1128, 1169, 1128), (1, 32, 1032, 1064, 1064, 1064),
                    (1, 31, 1031, 1128, 1064, 1128), (2, 120, 880, 872, 880, 872), (2, -120, 880, 872, 880, 872),
                    (3, 20, 1020, 1000, 1064, 1064), (1, -120, 1120, 1128, 1120, 1128)):
                self.assertEqual(self.place(0xE0 + low, number, control, moved), plain)
                self.assertEqual(self.place(0xE4 + low, number, control, moved), rounded)
                self.assertEqual(self.place(0xE8 + low, number, control, moved), least)
                self.assertEqual(self.place(0xEC + low, number, control, moved), both)

    def test_flip_at_0(self):
        outline = [(0, 0, 0), (0, 0, 0), (-1, 0, 0)]
        for number, control, x in ((1, 50, 50), (1, -50, 50), (1, -1, 1), (1, 0, 0), (2, 50, -50), (2, 1, -1)):
            found = fitted(outline, push(number, 0) + [0xE0], controls=[control])
            self.assertEqual(found[number][0], x, (number, control))
        # An original distance of 0 is not below 0 for the least distance.
        self.assertEqual(fitted(outline, push(1, 0) + [0xE8], controls=[100])[1][0], 100)
        self.assertEqual(fitted(outline, push(1, 0) + [0xE8], controls=[10])[1][0], 64)

    def test_what_is_flipped_is_cut(self):
        # Minus LEAST is LEAST, more than any cut-in from 100: so it is 100, rounded.
        code = push(MOST) + [0x1D] + push(0, LEAST) + [0x44] + push(1, 0) + [0xE4]
        self.assertEqual(fitted(self.LINE, code, controls=[0])[1][0], 128)

    def test_flip_off(self):
        self.assertEqual(self.place(0xE0, 1, -120, [0x4E]), -120)
        self.assertEqual(self.place(0xE0, 2, 120, [0x4E]), 120)
        self.assertEqual(self.place(0xE0, 2, -120, [0x4E]), -120)
        self.assertEqual(self.place(0xE8, 2, 120, [0x4E]), -64)
        self.assertEqual(self.place(0xE8, 1, -120, [0x4E]), 64)

    def test_single_width_of_the_control_value(self):
        single = push(90, 11) + [0x1E, 0x1F]
        self.assertEqual(self.place(0xE0, 1, 100, single), 90)
        self.assertEqual(self.place(0xE0, 1, 101, single), 101)
        self.assertEqual(self.place(0xE0, 1, 79, single), 79)
        self.assertEqual(self.place(0xE0, 1, 80, single), 90)
        wide = push(90, 1000) + [0x1E, 0x1F]
        self.assertEqual(self.place(0xE0, 2, -7, wide), -90)
        self.assertEqual(self.place(0xE0, 2, -7, wide + [0x4E]), -90)
        self.assertEqual(self.place(0xE0, 1, -7, wide + [0x4E]), -90)

    def test_the_cut_in_is_asked_within_one_zone_alone(self):
        code = push(0) + [0x13]
        self.assertEqual(self.place(0xE4, 1, 400, code, twilight=1), 384)
        self.assertEqual(self.place(0xE4, 1, 400), 128)
        self.assertEqual(self.place(0xE4, 1, 400, push(0) + [0x15], twilight=1), 128)

    def test_at_the_edges(self):
        # The control value is LEAST; flipped it is cut to LEAST again.
        for code, number, x in (([], 1, LEAST), ([0x4E], 1, LEAST), ([], 2, LEAST)):
            found = fitted(self.LINE, code + push(0, LEAST) + [0x44] + push(number, 0) + [0xE0], controls=[0])
            self.assertEqual(found[number], (x, 0, 2))

    def test_in_zone_0(self):
        # r0 stands at 50 now and originally; p is put at 50 + 70 and then stays, or is rounded to 50 + 64.
        for byte, x in ((0xE0, 120), (0xE4, 114)):
            code = twilight(0, 50) + push(0) + [ALL_ZONES] + push(1, 0) + [byte]
            self.assertEqual(zones([], code, twilight=2, controls=[70])[0][1], (x, 0, 2))
            code += push(1) + [0x47]
            self.assertEqual(stack_behind(code, twilight=2, controls=[70]), [120])

    def test_in_zone_0_from_a_point_of_zone_1(self):
        code = push(1, 150) + [SET_PLACE] + push(1) + [0x10] + push(0) + [0x14] + push(0, 0) + [0xE0]
        # Put at 100 + 70, r0 being at 150 now: moved to 220.
        self.assertEqual(zones(self.LINE, code, twilight=1, controls=[70])[0], [(220, 0, 2)])
        code += push(0) + [0x15] + push(0) + [0x47]
        self.assertEqual(stack_behind(code, outline=self.LINE, twilight=1, controls=[70]), [170])

    def test_in_zone_0_along_the_freedom_vector(self):
        # Put at (60, 80), at 60 on x; moved by 40 more: (40, 53.3).
        code = SLANT_FREE + push(0) + [ALL_ZONES] + push(1, 0) + [0xE0]
        self.assertEqual(zones([], code, twilight=2, controls=[100])[0][1], (100, 133, 6))

    def test_reference_points(self):
        outline = [(0, 0, 0), (100, 0, 0), (300, 0, 0)]
        for byte, r0 in ((0xE0, 7), (0xF0, 107), (0xE3, 7), (0xF3, 107)):
            begun = push(0, 7) + [SET_PLACE] + push(1, 0) + [byte]
            self.assertEqual(fitted(outline, begun + push(2) + [0x3C], controls=[100])[2][0], r0)
            begun = push(1) + [0x10] + push(1, 109) + [SET_PLACE] + push(0, 0) + [byte] + push(0, 0) + [SET_PLACE]
            self.assertEqual(fitted(outline, begun + push(2) + [0x33], controls=[100])[2][0], 309)
            begun = push(1, 0) + [byte] + push(1, 150) + [SET_PLACE]
            self.assertEqual(fitted(outline, begun + push(2) + [0x32], controls=[100])[2][0], 350)

    def test_ranges(self):
        for byte in (0xE0, 0xFF):
            self.assertEqual(fault_number(push(4, 0) + [byte], controls=[1]), 3)
            self.assertEqual(fault_number(push(0, 1) + [byte], controls=[1]), 3)
            self.assertEqual(fault_number(push(0, -1) + [byte], controls=[1]), 3)
            self.assertEqual(fault_number(push(4) + [0x10] + push(0, 0) + [byte], controls=[1]), 3)
            self.assertEqual(fault_number(push(9) + [byte], controls=[1]), 1)


class InZone0(unittest.TestCase):
    def test_what_it_is_put_at_is_cut(self):
        # r0 stands originally at MOST, p 10 behind it at LEAST + 9; along (0.707, 0.707) that is below 0.
        for code in (push(1, 10) + [0x3A], push(1, 0) + [0xE0]):
            code = twilight(0, MOST) + push(0) + [ALL_ZONES] + code + push(1, 1) + [0x0A] + push(1) + [0x47]
            self.assertEqual(stack_behind(code, twilight=2, controls=[10]),
                             [((LEAST + 9) * 11585 * 2 + 16384) // 32768])

    def test_on_y_too(self):
        begin = push(0) + [ALL_ZONES, 0x00] + push(0, MOST) + [SET_PLACE]
        for code in (push(1, 10) + [0x3A], push(1, 0) + [0xE0]):
            code = begin + code + push(1, 1) + [0x0A] + push(1) + [0x47]
            self.assertEqual(stack_behind(code, twilight=2, controls=[10]),
                             [((LEAST + 9) * 11585 * 2 + 16384) // 32768])

    def test_a_shape_has_the_sizes_points_with_both_places(self):
        # Point 0 is put at (40, 0) and rounded to (64, 0), point 1 at (0, 90) and to (0, 64).
        size_code = push(0) + [ALL_ZONES] + push(0, 0) + [0x3F, 0x00] + push(1, 1) + [0x3F]
        others = {"twilight": 2, "controls": [40, 90], "size_code": size_code}
        self.assertEqual(zones([], [], **others)[0], [(64, 0, 2), (0, 64, 4)])
        code = push(0) + [ALL_ZONES]
        for byte in (0x46, 0x47):
            for axis in (0x01, 0x00):
                code += [axis] + push(0) + [byte] + push(1) + [byte]
        self.assertEqual(stack_behind(code, **others), [64, 0, 0, 64, 40, 0, 0, 90])


class ToDistance(unittest.TestCase):
    OUTLINE = [(0, 0, 0), (100, 0, 0), (300, 0, 0)]

    def test_from_r0(self):
        moved = push(0, 7) + [SET_PLACE]
        for byte in (0x3A, 0x3B):
            self.assertEqual(fitted(self.OUTLINE, moved + push(1, 50) + [byte])[1], (57, 0, 2))
            self.assertEqual(fitted(self.OUTLINE, moved + push(1, -50) + [byte])[1], (-43, 0, 2))

    def test_reference_points(self):
        for byte, r0 in ((0x3A, 7), (0x3B, 57)):
            begun = push(0, 7) + [SET_PLACE] + push(1, 50) + [byte]
            self.assertEqual(fitted(self.OUTLINE, begun + push(2) + [0x3C])[2][0], r0)
            begun = push(1) + [0x10] + push(1, 109) + [SET_PLACE] + push(0, 50) + [byte] + push(0, 0) + [SET_PLACE]
            self.assertEqual(fitted(self.OUTLINE, begun + push(2) + [0x33])[2][0], 309)
            begun = push(1, 50) + [byte] + push(1, 150) + [SET_PLACE]
            self.assertEqual(fitted(self.OUTLINE, begun + push(2) + [0x32])[2][0], 350)

    def test_in_zone_0(self):
        code = twilight(0, 50) + push(0) + [ALL_ZONES] + push(1, 30) + [0x3A] + push(1) + [0x47]
        self.assertEqual(stack_behind(code, twilight=2), [80])
        code = push(1, 150) + [SET_PLACE] + push(1) + [0x10] + push(0) + [0x14] + push(0, 30) + [0x3A]
        self.assertEqual(zones(self.OUTLINE, code, twilight=1)[0], [(180, 0, 2)])
        self.assertEqual(stack_behind(code + push(0) + [0x15] + push(0) + [0x47], self.OUTLINE, twilight=1), [130])

    def test_in_zone_0_by_the_way(self):
        # The way of 60 on (0.6, 0.8), projected on x, is (60, 80).
        code = SLANT_FREE + push(0) + [ALL_ZONES] + push(1, 60) + [0x3A]
        self.assertEqual(zones([], code, twilight=2)[0][1], (60, 80, 6))

    def test_ranges(self):
        for byte in (0x3A, 0x3B):
            self.assertEqual(fault_number(push(4, 0) + [byte]), 3)
            self.assertEqual(fault_number(push(4) + [0x10] + push(0, 0) + [byte]), 3)
            self.assertEqual(fault_number(push(0) + [byte]), 1)


class Aligning(unittest.TestCase):
    def test_with_r0(self):
        found = fitted(FOUR, push(1) + [0x10] + push(0, 3, 2) + [0x17, 0x3C])
        self.assertEqual(found, [(110, 20, 3), (110, 20, 0), (110, 220, 1), (110, 220, 2)])
        self.assertEqual(fitted(FOUR, [0x00] + push(2) + [0x3C])[2], (110, 20, 5))

    def test_the_distance_is_cut(self):
        # From LEAST to MOST it is -1: moved by 1 on x, by 1.33 on y.
        far = push(0, LEAST) + [SET_PLACE] + push(1, MOST) + [SET_PLACE] + SLANT_FREE
        self.assertEqual(fitted([(0, 0, 0)] * 2, far + push(1) + [0x3C])[1], (LEAST, 1, 6))

    def test_zones_of_both(self):
        code = twilight(0, 50) + push(0) + [0x13] + push(1) + [0x3C]
        self.assertEqual(fitted(FOUR, code, twilight=1)[1], (50, 20, 2))

    def test_two(self):
        self.assertEqual(fitted(FOUR, push(0, 1) + [0x27])[:2], [(60, 20, 3), (60, 20, 2)])
        outline = [(0, 0, 0), (5, 0, 0)]
        self.assertEqual(fitted(outline, push(0, 1) + [0x27]), [(2, 0, 2), (3, 0, 2)])
        self.assertEqual(fitted(outline, push(1, 0) + [0x27]), [(3, 0, 2), (2, 0, 2)])
        self.assertEqual(fitted(outline, push(1, 1) + [0x27]), [(0, 0, 0), (5, 0, 2)])

    def test_two_of_two_zones(self):
        code = twilight(0, 50) + push(0) + [0x13] + push(1, 0) + [0x27]
        self.assertEqual(zones(FOUR, code, twilight=1), [[(80, 0, 2)], [FOUR[0], (80, 20, 2), FOUR[2], FOUR[3]]])
        code = twilight(0, 50) + push(0) + [0x14] + push(0, 1) + [0x27]
        self.assertEqual(zones(FOUR, code, twilight=1), [[(80, 0, 2)], [FOUR[0], (80, 20, 2), FOUR[2], FOUR[3]]])

    def test_ranges(self):
        self.assertEqual(fault_number(push(4) + [0x3C]), 3)
        self.assertEqual(fault_number(push(0, 4, 2) + [0x17, 0x3C]), 3)
        self.assertEqual(fault_number(push(4) + [0x10] + push(0) + [0x3C]), 3)
        self.assertEqual(fault_number(push(4, 0) + [0x27]), 3)
        self.assertEqual(fault_number(push(0, 4) + [0x27]), 3)
        self.assertEqual(fault_number(push(4) + [0x27]), 1)


class InProportion(unittest.TestCase):
    LINE = [(0, 0, 0), (100, 0, 0), (25, 0, 0), (-10, 0, 0), (150, 0, 0), (0, 0, 0)]

    def test_between_and_beside(self):
        code = push(0) + [0x11] + push(1) + [0x12] + push(0, 1000) + [SET_PLACE] + push(1, 1200) + [SET_PLACE]
        found = fitted(self.LINE, code + push(2, 3, 4, 5, 4) + [0x17, 0x39])
        self.assertEqual([point[0] for point in found], [1000, 1200, 1050, 980, 1300, 1000])
        self.assertEqual([point[2] for point in found], [2] * 6)

    def test_nothing_between_the_references(self):
        code = push(0) + [0x11] + push(5) + [0x12] + push(0, 1000) + [SET_PLACE] + push(5, 1200) + [SET_PLACE]
        found = fitted(self.LINE, code + push(2, 5, 2) + [0x17, 0x39])
        # The original distance stays where R is 0; and 0 stays 0.
        self.assertEqual(found[2][0], 1025)
        self.assertEqual(found[5][0], 1000)

    def test_to_the_nearest(self):
        outline = [(0, 0, 0), (2, 0, 0), (1, 0, 0), (-1, 0, 0)]
        code = push(0) + [0x11] + push(1) + [0x12] + push(1, 3) + [SET_PLACE]
        found = fitted(outline, code + push(2, 3, 2) + [0x17, 0x39])
        self.assertEqual([point[0] for point in found], [0, 3, 2, -1])

    def test_span_below_0(self):
        code = push(1) + [0x11] + push(0) + [0x12] + push(0, -100) + [SET_PLACE]
        self.assertEqual(fitted(self.LINE, code + push(2) + [0x39])[2][0], -50)

    def test_what_comes_of_it_is_cut(self):
        # 100 * 2^31 / 1 cut is 0: the point comes to r1 itself.
        outline = [(0, 0, 0), (1, 0, 0), (100, 0, 0), (3, 0, 0)]
        code = push(1) + [0x12] + push(1, LEAST) + [SET_PLACE]
        found = fitted(outline, code + push(2, 3, 2) + [0x17, 0x39])
        self.assertEqual([point[0] for point in found], [0, LEAST, 0, LEAST])

    def test_what_comes_of_it_is_cut_before_moving(self):
        # 3 * 2^31 is cut to LEAST: from 3 moved by LEAST - 3, on y that times 13107 / 9830.
        outline = [(0, 0, 0), (1, 0, 0), (3, 0, 0)]
        code = push(1) + [0x12] + push(1, LEAST) + [SET_PLACE] + SLANT_FREE + push(2) + [0x39]
        y = (2 * (LEAST - 3) * 13107 + 9830) // (2 * 9830)
        self.assertEqual(fitted(outline, code)[2], (LEAST, (y + 2 ** 31) % 2 ** 32 - 2 ** 31, 6))

    def test_zones(self):
        # r1 of z0, r2 of z1, points of z2.
        code = twilight(0, 40) + push(0) + [0x13] + push(1) + [0x12] + push(1, 160) + [SET_PLACE] + push(2) + [0x39]
        # From 40: 60 became 120, -15 becomes -30.
        self.assertEqual(fitted(self.LINE, code, twilight=1)[2][0], 10)
        code = twilight(0, 50) + push(0) + [0x14] + push(0) + [0x11] + push(0, 50) + [SET_PLACE] + push(4) + [0x39]
        # r2 is at 50 of old and now, r1 went from 0 to 50: no span now.
        self.assertEqual(fitted(self.LINE, code, twilight=1)[4][0], 50)

    def test_ranges(self):
        self.assertEqual(fault_number(push(4) + [0x39]), 3)
        self.assertEqual(fault_number(push(4) + [0x11] + push(0) + [0x39]), 3)
        self.assertEqual(fault_number(push(4) + [0x12] + push(0) + [0x39]), 3)
        self.assertEqual(fault_number(push(4) + [0x12, 0x39]), 1)


class Shifting(unittest.TestCase):
    SIX = [(0, 0, 0), (10, 0, 0), (20, 0, 0), (30, 0, 0), (40, 0, 0), (50, 0, 0)]
    ENDS = (1, 4)

    def xs(self, code, **others):
        return [point[0] for point in fitted(self.SIX, code, self.ENDS, **others)]

    def marks(self, code, **others):
        return [point[2] for point in fitted(self.SIX, code, self.ENDS, **others)]

    def lead(self, byte, number=3, by=7):
        """Point number, moved by so much, becomes the reference point that the byte uses."""
        return push(number, 10 * number + by) + [SET_PLACE] + push(number) + [0x12 if byte % 2 == 0 else 0x11]

    def test_points(self):
        for byte in (0x32, 0x33):
            code = self.lead(byte) + push(0, 5, 2) + [0x17, byte]
            self.assertEqual(self.xs(code), [7, 10, 20, 37, 40, 57])
            self.assertEqual(self.marks(code), [2, 0, 0, 2, 0, 2])
            # The step is reckoned once, and the reference point itself is shifted too where it is named.
            self.assertEqual(self.xs(self.lead(byte) + push(0, 3, 0, 3) + [0x17, byte]), [14, 10, 20, 44, 40, 50])

    def test_contours(self):
        for byte in (0x34, 0x35):
            code = self.lead(byte) + push(1) + [byte]
            self.assertEqual(self.xs(code), [0, 10, 27, 37, 47, 50])
            self.assertEqual(self.marks(code), [0, 0, 2, 2, 2, 0])
            code = self.lead(byte) + push(0) + [byte]
            self.assertEqual(self.xs(code), [7, 17, 20, 37, 40, 50])
            for number in (2, -1, LEAST):
                self.assertEqual(fault_number(push(number) + [byte], self.SIX, self.ENDS), 3)
            self.assertEqual(fault_number([byte], self.SIX, self.ENDS), 1)

    def test_zones(self):
        for byte in (0x36, 0x37):
            code = self.lead(byte) + push(1) + [byte]
            self.assertEqual(self.xs(code), [7, 17, 27, 37, 47, 57])
            self.assertEqual(self.marks(code), [0, 0, 0, 2, 0, 0])
            found = zones(self.SIX, self.lead(byte) + push(0) + [byte], twilight=5)
            self.assertEqual(found[0], [(7, 0, 0)] * 5)
            for number in (2, -1, LEAST):
                self.assertEqual(fault_number(push(number) + [byte]), 3)
            self.assertEqual(fault_number([byte]), 1)

    def test_led_by_a_point_of_zone_0(self):
        # Point 1 of zone 0 goes from 0 to 5; its original place stays, as 2F moves the place now alone.
        begun = [0x3D] + push(0) + [0x13] + push(1, 0) + [0x3E] + push(1) + [0x2F]
        for even, pointer, reference in ((0, 0x14, 0x12), (1, 0x13, 0x11)):
            others = {"twilight": 3, "controls": [40]}
            code = begun + push(1) + [0x13] + push(0) + [pointer] + push(1) + [reference]
            found = zones(self.SIX, code + push(0) + [0x34 + even], self.ENDS, **others)
            self.assertEqual([point[0] for point in found[1]], [-8, 2, 20, 30, 40, 50])
            found = zones(self.SIX, code + push(1) + [0x36 + even], self.ENDS, **others)
            self.assertEqual([point[0] for point in found[1]], [-8, 2, 12, 22, 32, 42])
            found = zones(self.SIX, code + push(0) + [0x36 + even], self.ENDS, **others)
            self.assertEqual(found[0], [(-8, 0, 0), (32, 0, 2), (-8, 0, 0)])

    def test_points_of_z2(self):
        for byte in (0x32, 0x33):
            found = zones(self.SIX, self.lead(byte) + push(0) + [0x15] + push(1) + [byte], twilight=2)
            self.assertEqual(found[0], [(0, 0, 0), (7, 0, 2)])

    def test_the_way_goes_by_projection_and_freedom(self):
        # The lead moved by 10 on y; projected on (0.6, 0.8) that is 8, and 8 needs 13.3 on x.
        for byte in (0x32, 0x33):
            code = [0x00] + push(3, 10) + [SET_PLACE, 0x01] + push(3) + [0x12 if byte == 0x32 else 0x11]
            code += SLANT + push(0) + [byte]
            self.assertEqual(fitted(self.SIX, code)[0], (13, 0, 2))

    def test_references_in_range(self):
        for byte, number, reference in ((0x32, 0, 0x12), (0x33, 0, 0x11), (0x34, 0, 0x12), (0x35, 0, 0x11),
                                        (0x36, 1, 0x12), (0x37, 1, 0x11)):
            self.assertEqual(fault_number(push(4) + [reference] + push(number) + [byte]), 3)
            self.assertEqual(fault_number(push(3) + [reference] + push(number) + [byte]), 0)
        for byte in (0x32, 0x33):
            self.assertEqual(fault_number(push(4) + [byte]), 3)
            self.assertEqual(fault_number(push(4) + [0x12, byte]), 1)

    def test_a_zone_without_points_still_asks_for_its_reference(self):
        self.assertEqual(fault_number(push(1) + [0x36], [], ()), 3)

    def test_by_a_number(self):
        self.assertEqual(self.xs(push(0, 5, 9, 2) + [0x17, 0x38]), [9, 10, 20, 30, 40, 59])
        self.assertEqual(self.marks(push(0, 5, 9, 2) + [0x17, 0x38]), [2, 0, 0, 0, 0, 2])
        self.assertEqual(fitted(self.SIX, SLANT_FREE + push(1, 100) + [0x38])[1], (70, 80, 6))
        self.assertEqual(fitted(self.SIX, push(0, MOST) + [0x38] + push(0, MOST) + [0x38])[0], (-2, 0, 2))
        # The projection vector counts for nothing here.
        self.assertEqual(fitted(self.SIX, SLANT + push(1, 100) + [0x38])[1], (110, 0, 2))
        found = zones(self.SIX, push(0) + [0x15] + push(1, 9) + [0x38], twilight=2)
        self.assertEqual(found[0], [(0, 0, 0), (9, 0, 2)])
        self.assertEqual(fault_number(push(4, 9) + [0x38]), 3)
        self.assertEqual(fault_number(push(9) + [0x38]), 1)


class Crossing(unittest.TestCase):
    def crossing(self, a, b, c, d):
        outline = [place + (0,) for place in (a, b, c, d, (1, 1))]
        found = fitted(outline, push(4, 0, 1, 2, 3) + [0x0F])
        self.assertEqual(found[:4], outline[:4])
        self.assertEqual(found[4][2], 6)
        return found[4][:2]

    def test_ordinary(self):
        self.assertEqual(self.crossing((0, 0), (100, 100), (0, 100), (100, 0)), (50, 50))
        self.assertEqual(self.crossing((0, 0), (10, 0), (100, -7), (100, 7)), (100, 0))
        self.assertEqual(self.crossing((0, 0), (3, 1), (10, 0), (10, 1)), (10, 3))
        self.assertEqual(self.crossing((0, 0), (2, 1), (5, 0), (5, 1)), (5, 3))
        self.assertEqual(self.crossing((0, 0), (2, 1), (-5, 0), (-5, -1)), (-5, -2))

    def test_never(self):
        self.assertEqual(self.crossing((0, 0), (10, 0), (0, 5), (11, 5)), (5, 2))
        self.assertEqual(self.crossing((0, 0), (-10, 0), (0, -5), (-11, -5)), (-6, -3))
        self.assertEqual(self.crossing((7, 7), (7, 7), (1, 2), (3, 9)), (4, 6))

    def test_the_middle_counts_all_four(self):
        self.assertEqual(self.crossing((1, 10), (2, 20), (103, 130), (107, 170)), (53, 82))
        self.assertEqual(self.crossing((-1, -10), (-2, -20), (-103, -130), (-107, -170)), (-54, -83))

    def test_the_place_is_cut(self):
        # They meet at -32768 + 65535 * 65535 on the one axis.
        self.assertEqual(self.crossing((0, -32768), (32767, -32768), (-32768, 32767), (32767, 32766)),
                         (-163839, -32768))
        self.assertEqual(self.crossing((-32768, 0), (-32768, 32767), (32767, -32768), (32766, 32767)),
                         (-32768, -163839))

    def test_far_away(self):
        # What stands in the formula is not cut, though it needs more than 32 bits.
        self.assertEqual(self.crossing((-30000, -30000), (30000, 30000), (-30000, 30000), (30000, -30000)), (0, 0))
        # Almost parallel: one falls by 1 on every 30000.
        self.assertEqual(self.crossing((0, 0), (30000, 0), (0, 30000), (30000, 29999)), (900000000, 0))
        self.assertEqual(self.crossing((0, 0), (32767, 0), (-32768, 32767), (32767, 32766)), (2147352577, 0))

    def test_by_places_now(self):
        outline = [(0, 0, 0), (10, 0, 0), (100, -7, 0), (100, 7, 0), (1, 1, 1)]
        code = push(2, 50) + [SET_PLACE] + push(3, 50) + [SET_PLACE] + push(4, 0, 1, 2, 3) + [0x0F]
        self.assertEqual(fitted(outline, code)[4], (50, 0, 7))

    def test_zones(self):
        # p of z2 and a, b of z1 are of zone 1; c, d of z0 stand at 0 and at 50 of zone 0.
        outline = [(0, 10, 0), (10, 20, 0), (1, 1, 0)]
        code = twilight(1, 50) + push(0) + [0x13] + push(2, 0, 1, 0, 1) + [0x0F]
        self.assertEqual(fitted(outline, code, twilight=2)[2], (-10, 0, 6))
        code = twilight(1, 50) + push(0) + [0x14] + push(2, 0, 1, 0, 1) + [0x0F]
        self.assertEqual(fitted(outline, code, twilight=2)[2], (-10, 0, 6))
        code = push(0) + [0x15] + push(1, 0, 1, 2, 0) + [0x0F]
        self.assertEqual(zones(outline, code, twilight=2)[0][1][2], 6)

    def test_ranges(self):
        for place in range(5):
            numbers = [0, 0, 1, 2, 3]
            numbers[place] = 4
            self.assertEqual(fault_number(push(*numbers) + [0x0F]), 3)
        self.assertEqual(fault_number(push(4, 0, 1, 2) + [0x0F]), 1)


class LedAlong(unittest.TestCase):
    SIX = [(0, 0, 0), (50, 10, 0), (100, 20, 1), (150, 30, 0), (40, 40, 0), (-20, 50, 0), (7, 7, 0)]

    def moved(self, moves, byte=0x31, ends=(5,), outline=None):
        code = [0x01] if byte == 0x31 else [0x00]
        for number, place in moves:
            code += push(number, place) + [SET_PLACE]
        found = fitted(outline or self.SIX, code + [byte], ends)
        return [point[0 if byte == 0x31 else 1] for point in found], [point[2] for point in found]

    def test_none_touched(self):
        self.assertEqual(self.moved([])[0], [0, 50, 100, 150, 40, -20, 7])

    def test_one_touched(self):
        places, marks = self.moved([(2, 110)])
        self.assertEqual(places, [10, 60, 110, 160, 50, -10, 7])
        self.assertEqual(marks, [0, 0, 3, 0, 0, 0, 0])

    def test_two_touched(self):
        # 0 goes to -10, 100 to 130: between them in proportion, beside them with the nearer one.
        places, marks = self.moved([(0, -10), (2, 130)])
        self.assertEqual(places, [-10, 60, 130, 180, 46, -30, 7])
        self.assertEqual(marks, [2, 0, 3, 0, 0, 0, 0])

    def test_the_same_on_y(self):
        outline = [(y, x, mark) for x, y, mark in self.SIX]
        self.assertEqual(self.moved([(0, -10), (2, 130)], 0x30, outline=outline)[0],
                         [-10, 60, 130, 180, 46, -30, 7])

    def test_the_other_axis_counts_for_nothing(self):
        code = [0x00] + push(0, 90) + [SET_PLACE] + push(2, 90) + [SET_PLACE]
        self.assertEqual([point[0] for point in fitted(self.SIX, code + [0x31], [5])],
                         [0, 50, 100, 150, 40, -20, 7])
        code = push(0, 90) + [SET_PLACE] + push(2, 90) + [SET_PLACE]
        self.assertEqual([point[1] for point in fitted(self.SIX, code + [0x30], [5])], [0, 10, 20, 30, 40, 50, 7])

    def test_three_touched(self):
        # Behind 3 come 4 and 5 between 3 (150, now 150) and 0 (0, now 0); 1 between 0 and 2.
        places = self.moved([(0, 0), (2, 200), (3, 150)])[0]
        self.assertEqual(places, [0, 100, 200, 150, 40, -20, 7])

    def test_equal_originals(self):
        outline = [(10, 0, 0), (10, 0, 0), (10, 0, 0), (5, 0, 0), (20, 0, 0)]
        # l is the first touched one where both have the same original place: 0 for point 1, 2 for points 3 and 4.
        self.assertEqual(self.moved([(0, 100), (2, 200)], ends=(4,), outline=outline)[0], [100, 100, 200, 195, 110])

    def test_at_the_lower_and_the_higher_one_itself(self):
        outline = [(0, 0, 0), (0, 0, 0), (10, 0, 0), (10, 0, 0)]
        self.assertEqual(self.moved([(0, 5), (2, 25)], ends=(3,), outline=outline)[0], [5, 5, 25, 25])

    def test_to_the_nearest(self):
        outline = [(0, 0, 0), (1, 0, 0), (2, 0, 0), (3, 0, 0), (4, 0, 0)]
        self.assertEqual(self.moved([(0, 0), (4, 2)], ends=(4,), outline=outline)[0], [0, 1, 1, 2, 2])
        self.assertEqual(self.moved([(0, 0), (4, -2)], ends=(4,), outline=outline)[0], [0, 0, -1, -1, -2])

    def test_the_place_now_of_an_untouched_point(self):
        # A point that was shifted without being touched: one touched adds to it, two replace it.
        shifted = push(3, 157) + [SET_PLACE] + push(3) + [0x12] + push(1) + [0x36]
        code = shifted + push(3) + [0x29] + push(2, 110) + [SET_PLACE, 0x31]
        self.assertEqual([point[0] for point in fitted(self.SIX, code, [5])][:3], [17, 67, 110])
        code = shifted + push(3) + [0x29] + push(2, 110) + [SET_PLACE] + push(0, 10) + [SET_PLACE, 0x31]
        self.assertEqual([point[0] for point in fitted(self.SIX, code, [5])][:3], [10, 60, 110])

    def test_each_contour_by_itself(self):
        places = self.moved([(0, 10), (4, 0)], ends=(1, 3, 5))[0]
        self.assertEqual(places, [10, 60, 100, 150, 0, -60, 7])
        # Without contours nothing is led.
        self.assertEqual(self.moved([(0, 10)], ends=())[0], [10, 50, 100, 150, 40, -20, 7])

    def test_over_the_edge(self):
        places = self.moved([(2, MOST)])[0]
        self.assertEqual(places[3], LEAST + 49)
        places = self.moved([(0, LEAST), (2, MOST)])[0]
        # The middle of 2^32 - 1, to the greater: LEAST + 2^31 = 0.
        self.assertEqual(places[1], 0)

    def test_over_the_edge_beside_two(self):
        self.assertEqual(self.moved([(0, LEAST), (2, MOST)])[0][3], LEAST + 49)
        self.assertEqual(self.moved([(0, LEAST), (2, MOST)])[0][5], MOST - 19)

    def test_zones_of_the_state_count_for_nothing(self):
        code = push(0, 10) + [SET_PLACE] + push(0) + [ALL_ZONES, 0x31]
        self.assertEqual(fitted(self.SIX, code, [5], twilight=1)[1][0], 60)


class Deltas(unittest.TestCase):
    def test_points(self):
        outline = [(0, 0, 0), (0, 0, 0)]
        for byte, start in ((0x5D, 0), (0x71, 16), (0x72, 32)):
            for told, x in ((0x00, -64), (0x07, -8), (0x08, 8), (0x0F, 64), (-256 + 0x08, 8), (0x1108, 8)):
                code = push(told, 1, 1) + [byte]
                self.assertEqual(fitted(outline, code, dots=9 + start), [(0, 0, 0), (x, 0, 2)], told)
            for above in range(16):
                code = push(16 * above + 8, 1, 1) + [byte]
                self.assertEqual(fitted(outline, code, dots=9 + start + above)[1], (8, 0, 2))
                self.assertEqual(fitted(outline, code, dots=10 + start + above)[1], (0, 0, 0))
                self.assertEqual(fitted(outline, code, dots=8 + start + above)[1], (0, 0, 0))

    def test_several(self):
        outline = [(0, 0, 0)] * 3
        code = push(5, 0x08, 0, 0x18, 1, 0x0F, 2, 0x09, 0, 4) + [0x5D]
        self.assertEqual(fitted(outline, code + push(2) + [0x23, SET_PLACE], dots=9),
                         [(24, 0, 2), (0, 0, 0), (5, 0, 2)])
        self.assertEqual(stack_behind(push(5, 0) + [0x5D]), [5])

    def test_points_go_by_z0_and_the_vectors(self):
        found = zones([(0, 0, 0)], push(0) + [0x13] + push(8, 1, 1) + [0x5D], twilight=2, dots=9)
        self.assertEqual(found, [[(0, 0, 0), (8, 0, 2)], [(0, 0, 0)]])
        self.assertEqual(fitted([(0, 0, 0)], SLANT_FREE + push(0xF, 0, 1) + [0x5D], dots=9), [(64, 85, 6)])

    def test_controls(self):
        read = push(0) + [0x45] + push(1) + [0x45]
        for byte, start in ((0x73, 0), (0x74, 16), (0x75, 32)):
            for told, amount in ((0x00, -64), (0x07, -8), (0x08, 8), (0x0F, 64)):
                found = stack_behind(push(told, 1, 1) + [byte] + read, controls=[10, 20], dots=9 + start)
                self.assertEqual(found, [10, 20 + amount])
            found = stack_behind(push(0x08, 0, 0x18, 1, 0x09, 0, 3) + [byte] + read, controls=[10, 20], dots=9 + start)
            self.assertEqual(found, [34, 20])
            found = stack_behind(push(0x38, 1, 1) + [byte] + read, controls=[10, 20], dots=12 + start)
            self.assertEqual(found, [10, 28])

    def test_controls_are_cut(self):
        code = push(0, MOST) + [0x44] + push(0x08, 0, 1) + [0x73] + push(0) + [0x45]
        self.assertEqual(stack_behind(code, controls=[0], dots=9), [LEAST + 7])

    def test_in_range_even_where_nothing_is_done(self):
        for byte in (0x5D, 0x71, 0x72, 0x73, 0x74, 0x75):
            for told in (0x08, 0x18):
                for number in (4, -1, LEAST):
                    self.assertEqual(fault_number(push(told, number, 1) + [byte], controls=[1] * 4, dots=9), 3)
                self.assertEqual(fault_number(push(told, 3, 1) + [byte], controls=[1] * 4, dots=9), 0)

    def test_too_few(self):
        for byte in (0x5D, 0x71, 0x72, 0x73, 0x74, 0x75):
            others = {"controls": [1] * 4}
            self.assertEqual(fault_number([byte]), 1)
            self.assertEqual(fault_number(push(0) + [byte]), 0)
            self.assertEqual(fault_number(push(9, 1) + [byte], **others), 1)
            self.assertEqual(fault_number(push(8, 0, 8, 2) + [byte], **others), 1)
            self.assertEqual(fault_number(push(8, 0, 8, 0, 2) + [byte], **others), 0)
            for number in (-1, LEAST, MOST):
                self.assertEqual(fault_number(push(8, 0, number) + [byte], **others), 1)


if __name__ == "__main__":
    unittest.main()
