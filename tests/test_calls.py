"""The calls that change an object, and points: what they answer, their bounds, and what a refusal leaves."""

import unittest

from gridfit.machine import answers
from tests.helper import IF, font, init, points, push, setting, shape, size, told, values

SET_CELL, GET_CELL, GET_CONTROL, SET_PLACE, ROUND_POINT = 0x42, 0x43, 0x45, 0x48, 0x2F
NOTHING = 0x59
TWO = [(10, 20, 1), (30, 40, 0)]


class Interface(unittest.TestCase):
    def test_no_calls(self):
        self.assertEqual(answers([]), [])

    def test_each_answer_has_its_count_before_it(self):
        calls = init(64) + size(1) + shape(TWO) + points(1) + points(2) + size(1, [0x28])
        self.assertEqual(answers(calls), [1, 0, 1, 0, 1, 0, 8, 0, 2, 10, 20, 1, 30, 40, 0,
                                          1, -1, 6, -5, 5, 0, 0, 0x28, 0])

    def test_answers_are_plain_whole_numbers(self):
        for number in answers(init(64) + size(1) + shape(TWO, [1], push(0) + [ROUND_POINT]) + points(1)):
            self.assertIs(type(number), int)

    def test_what_is_handed_in_stays_and_answers_the_same_again(self):
        code = push(0, 5) + [SET_CELL] + push(0) + [0x2C, 0x2D]
        calls = (init(64, 2, 3) + values([4, -5]) + font(code) + size(1, push(1, 7) + [0x44])
                 + shape(TWO, [1], push(0) + [0x2F, 0x30, 0x31]) + points(1) + points(0) + shape([], [0], []))
        before = list(calls)
        first = answers(calls)
        self.assertEqual(calls, before)
        self.assertEqual(answers(calls), first)
        self.assertEqual(answers(before), first)

    def test_an_object_is_new_with_each_list(self):
        self.assertEqual(told(init(64), size(1), shape(TWO)), [[0], [0], [0]])
        self.assertEqual(told(points(1), shape(TWO)), [[-2], [-2]])

    def test_four_hundred_calls(self):
        self.assertEqual(answers(points(0) * 400), [1, -2] * 400)


class Beginning(unittest.TestCase):
    def test_units_are_16(self):
        self.assertEqual(told(size(3), shape([(1, -2, 1)]), points(1))[-1], [0, 1, 12, -24, 1])

    def test_nothing_else_is_there(self):
        found = told(size(1, push(0) + [GET_CELL]), size(1, push(0) + [GET_CONTROL]), size(1, push(0) + [0x2B]),
                     points(0), shape([]), size(1), shape([]), points(0), points(1))
        self.assertEqual(found, [[-5, 3, 3, 0, 0x43, 1], [-5, 3, 3, 0, 0x45, 1], [-5, 3, 3, 0, 0x2B, 1],
                                 [-2], [-2], [0], [0], [0, 0], [0, 0]])


class Init(unittest.TestCase):
    def test_bounds(self):
        for call, answer in ((init(16), 0), (init(15), -1), (init(16384), 0), (init(16385), -1), (init(0), -1),
                             (init(4294967295), -1), (init(64, 16), 0), (init(64, 17), -1),
                             (init(64, 4294967295), -1), (init(64, 0, 64), 0), (init(64, 0, 65), -1),
                             (init(64, 0, 4294967295), -1)):
            self.assertEqual(told(call), [[answer]], call)

    def test_what_it_says_is_there(self):
        found = told(init(64, 16, 64), size(1, push(63) + [GET_CELL]), size(1, push(64) + [GET_CELL]),
                     shape([]), points(0))
        self.assertEqual(found, [[0], [0], [-5, 3, 3, 0, 0x43, 1], [0], [0, 16] + [0] * 48])

    def test_all_is_forgotten(self):
        begun = [init(64, 2, 2), values([1]), font(push(0) + [0x2C, 0x2D]), size(1), shape(TWO), init(32)]
        self.assertEqual(told(*begun, points(0))[-1], [-2])
        self.assertEqual(told(*begun, shape([]))[-1], [-2])
        self.assertEqual(told(*begun, size(1, push(0) + [0x2B]))[-1], [-5, 3, 3, 0, 0x2B, 1])
        self.assertEqual(told(*begun, size(1, push(0) + [GET_CONTROL]))[-1], [-5, 3, 3, 0, 0x45, 1])
        self.assertEqual(told(*begun, size(1, push(0) + [GET_CELL]))[-1], [-5, 3, 3, 0, 0x43, 1])
        self.assertEqual(told(*begun, size(1), shape([]), points(0))[-1], [0, 0])
        self.assertEqual(told(*begun, size(1), shape([(1, 1, 0)]), points(1))[-1], [0, 1, 2, 2, 0])

    def test_a_refused_one_forgets_nothing(self):
        begun = setting(twilight=2, cells=1, controls=[1], font_code=push(0) + [0x2C, 0x2D])
        for refused in (init(15), init(64, 17), init(64, 0, 65)):
            found = told(*begun, shape(TWO), refused, points(1), points(0), shape(TWO, [1], push(0) + [0x2B]),
                         size(1, push(0, 0) + [GET_CONTROL, 0x21, GET_CELL]), shape([(3, 4, 1)]), points(1))
            self.assertEqual(found[5:], [[-1], [0, 2, 10, 20, 1, 30, 40, 0], [0, 2] + [0] * 6, [0],
                                         [0], [0], [0, 1, 3, 4, 1]])


class Values(unittest.TestCase):
    def test_bounds(self):
        self.assertEqual(told(init(64), values([]), values([7] * 64), values([7] * 65), values([7] * 70)),
                         [[0], [0], [0], [-1], [-1]])

    def test_scaled_values_reach_the_programs(self):
        code = push(0, 0) + [GET_CONTROL, SET_PLACE] + push(1, 1) + [GET_CONTROL, SET_PLACE]
        found = told(init(1000), values([-32768, 32767]), size(17), shape(TWO, [], code), points(1))
        # 64 * 17 / 1000 of each: -35651.584 and 35650.496.
        self.assertEqual(found[-1], [0, 2, -35652, 22, 3, 35650, 44, 2])

    def test_they_stand_in_the_place_of_those_before(self):
        found = told(init(64), values([1, 2, 3]), values([9]), size(1, push(0) + [GET_CONTROL]),
                     size(1, push(1) + [GET_CONTROL]))
        self.assertEqual(found[-2:], [[0], [-5, 3, 3, 0, 0x45, 1]])

    def test_size_and_shape_are_gone_but_not_the_font(self):
        begun = setting(font_code=push(0) + [0x2C, 0x2D])
        found = told(*begun, shape(TWO), values([]), points(1), shape(TWO), size(1, push(0) + [0x2B]))
        self.assertEqual(found[-4:], [[0], [-2], [-2], [0]])

    def test_a_refused_one_changes_nothing(self):
        found = told(*setting(controls=[5]), shape(TWO), values([1] * 65), points(1),
                     shape([(0, 0, 0)], [], push(0, 0) + [GET_CONTROL, SET_PLACE]), points(1))
        self.assertEqual(found[-4:], [[-1], [0, 2, 10, 20, 1, 30, 40, 0], [0], [0, 1, 5, 0, 2]])


class Font(unittest.TestCase):
    def test_bounds(self):
        self.assertEqual(told(font([]), font([NOTHING] * 2048), font([NOTHING] * 2049), font([0x28] * 2100)),
                         [[0], [0], [-1], [-1]])

    def test_its_surroundings(self):
        begun = [init(64, 3, 2), values([70, 80]), size(40, push(0, 9) + [SET_CELL])]
        # Each asks for something and divides by it: fault 8 says that it is 0.
        for asked in ([0x4B], [0x4C], push(1) + [GET_CELL], push(1) + [GET_CONTROL], push(0) + [0x16]
                      + push(2) + [0x46]):
            found = told(*begun, font(push(1) + asked + [0x62]))
            self.assertEqual(found[-1][:2], [-5, 8], asked)
        for absent in (push(2) + [GET_CELL], push(2) + [GET_CONTROL], push(0) + [0x46], push(0, 0) + [0x16, 0x34],
                       push(3, 0) + [0x16, 0x46]):
            self.assertEqual(told(*begun, font(absent))[-1][:2], [-5, 3], absent)

    def test_only_code_and_functions_stay(self):
        code = (push(0) + [0x2C, 0x2D] + push(0, 7) + [SET_CELL] + push(0, 7) + [0x44] + push(0) + [0x16]
                + push(0, 7) + [SET_PLACE] + push(7) + [0x1A] + push(1, 1) + [0x8E])
        found = told(init(64, 1, 1), values([0]), font(code), size(1),
                     shape([(0, 0, 0), (5, 0, 0), (9, 0, 0)], [],
                           push(0, 0) + [GET_CELL, SET_PLACE] + push(1, 0) + [GET_CONTROL, SET_PLACE]
                           + push(2) + [0xC8]), points(0), points(1))
        self.assertEqual(found[-2:], [[0, 1, 0, 0, 0], [0, 3, 0, 0, 2, 0, 0, 2, 64, 0, 2]])

    def test_it_replaces_the_font_before_with_all_its_functions(self):
        found = told(init(64), font(push(0) + [0x2C, 0x2D]), font(push(1) + [0x2C, 0x2D]),
                     size(1, push(0) + [0x2B]), size(1, push(1) + [0x2B]), font(push(1) + [0x2B]))
        self.assertEqual(found[3:], [[-5, 3, 3, 0, 0x2B, 1], [0], [-5, 3, 3, 1, 0x2B, 1]])

    def test_size_and_shape_are_gone(self):
        found = told(*setting(), shape(TWO), font([]), points(0), shape([]))
        self.assertEqual(found[-3:], [[0], [-2], [-2]])

    def test_a_refused_or_faulty_one_changes_nothing(self):
        body = push(0, 5) + [SET_PLACE]
        begun = setting(font_code=push(0) + [0x2C] + body + [0x2D])
        for refused, answer in ((font([NOTHING] * 2049), [-1]),
                                (font(push(0) + [0x2C, 0x2D, 0x28]), [-5, 5, 5, 1, 0x28, 2])):
            found = told(*begun, shape(TWO), refused, points(1), shape(TWO, [], push(0) + [0x2B]), points(1))
            self.assertEqual(found[5:], [answer, [0, 2, 10, 20, 1, 30, 40, 0], [0], [0, 2, 5, 20, 3, 30, 40, 0]])


class Size(unittest.TestCase):
    def test_bounds(self):
        for call, answer in ((size(1), 0), (size(0), -1), (size(1000), 0), (size(1001), -1), (size(4294967295), -1),
                             (size(9, [NOTHING] * 2048), 0), (size(9, [NOTHING] * 2049), -1),
                             (size(0, [0x28]), -1), (size(1001, [0x28]), -1)):
            self.assertEqual(told(call), [[answer]], call[:3])

    def test_a_font_is_not_needed(self):
        self.assertEqual(told(init(64), size(1), shape([])), [[0], [0], [0]])

    def test_what_its_program_leaves_is_the_sizes(self):
        code = (push(0, 7) + [SET_CELL] + push(1, 8) + [0x44] + push(0) + [0x16] + push(1, 9) + [SET_PLACE]
                + push(90) + [0x1A])
        read = (push(0, 0) + [GET_CELL, SET_PLACE] + push(1, 1) + [GET_CONTROL, SET_PLACE] + push(2) + [0xC8])
        found = told(*setting(twilight=2, cells=1, controls=[1, 2], size_code=code),
                     shape([(0, 0, 0)] * 3, [], read), points(0), points(1))
        self.assertEqual(found[-2:], [[0, 2, 0, 0, 0, 9, 0, 2], [0, 3, 7, 0, 2, 8, 0, 2, 97, 0, 2]])

    def test_it_begins_anew(self):
        code = (push(0, 7) + [SET_CELL] + push(0, 8) + [0x44] + push(0) + [0x16] + push(0, 9) + [SET_PLACE]
                + push(90) + [0x1A] + push(1, 1) + [0x8E] + push(1, 2) + [0x8E])
        read = push(0, 0) + [GET_CELL, SET_PLACE] + push(1, 0) + [GET_CONTROL, SET_PLACE] + push(2) + [0xC8]
        found = told(*setting(twilight=1, cells=1, controls=[3], size_code=code), size(2),
                     shape([(0, 0, 0)] * 3, [], read), points(0), points(1))
        self.assertEqual(found[-2:], [[0, 1, 0, 0, 0], [0, 3, 0, 0, 2, 6, 0, 2, 64, 0, 2]])

    def test_there_are_no_points_in_zone_1(self):
        self.assertEqual(told(*setting(), shape(TWO, [1]), size(1, push(0) + [0x46]))[-1], [-5, 3, 3, 0, 0x46, 1])
        self.assertEqual(told(*setting(), shape(TWO, [1]), size(1, push(0) + [0x34]))[-1], [-5, 3, 3, 0, 0x34, 1])

    def test_the_shape_is_gone(self):
        self.assertEqual(told(*setting(), shape(TWO), size(1), points(1))[-1], [-2])

    def test_at_a_fault_or_refusal_the_old_size_and_shape_stay(self):
        wild = push(0, 1) + [SET_CELL] + push(0, 1) + [0x44] + push(0) + [0x16] + push(0, 1) + [SET_PLACE, 0x28]
        read = push(0, 0) + [GET_CELL, SET_PLACE] + push(1, 0) + [GET_CONTROL, SET_PLACE]
        begun = setting(twilight=1, cells=1, controls=[6], size_code=push(0, 7) + [SET_CELL])
        for refused, answer in ((size(2, wild), [-5, 5, len(wild) - 1, 0, 0x28, 11]), (size(0), [-1]),
                                (size(2, [NOTHING] * 2049), [-1])):
            found = told(*begun, shape(TWO), refused, points(1), points(0), shape(TWO, [], read), points(1))
            self.assertEqual(found[5:], [answer, [0, 2, 10, 20, 1, 30, 40, 0], [0, 1, 0, 0, 0], [0],
                                         [0, 2, 7, 20, 3, 6, 40, 2]])

    def test_still(self):
        for number, answer in ((1, [0, 2, 10, 20, 1, 30, 40, 0]), (0, [0, 2, 0, 20, 3, 30, 40, 0]),
                               (-5, [0, 2, 10, 20, 1, 30, 40, 0])):
            code = push(0) + [0x16] + push(0, 33) + [SET_PLACE] + push(number, 1) + [0x8E]
            found = told(*setting(twilight=1, size_code=code), shape(TWO, [], push(0) + [ROUND_POINT]), points(1),
                         points(0))
            self.assertEqual(found[-2:], [answer, [0, 1, 33, 0, 2]])

    def test_a_still_size_runs_no_code_whatever_it_is(self):
        found = told(*setting(size_code=push(1, 1) + [0x8E]), shape(TWO, [1], [0x28]), points(1),
                     shape(TWO, [2], []), shape(TWO, [1], [0x28] * 2049))
        self.assertEqual(found[-4:], [[0], [0, 2, 10, 20, 1, 30, 40, 0], [-1], [-1]])


class Shape(unittest.TestCase):
    def test_bounds(self):
        dot = (0, 0, 0)
        for call, answer in (
                (shape([]), 0), (shape([dot] * 64), 0), (shape([dot] * 65), -1), (shape([dot] * 67), -1),
                (shape([dot] * 9, range(8)), 0), (shape([dot] * 9, range(9)), -1),
                (shape([dot] * 20, range(12)), -1), (shape([dot] * 3, [2]), 0), (shape([dot] * 3, [3]), -1),
                (shape([], [0]), -1), (shape([dot] * 3, [4294967295]), -1), (shape([dot] * 3, [0, 1, 2]), 0),
                (shape([dot] * 3, [1, 1]), -1), (shape([dot] * 3, [2, 1]), -1), (shape([dot] * 3, [0, 2, 1]), -1),
                (shape([dot] * 3, [0, 0]), -1), (shape([dot] * 3, [0, 3]), -1),
                (shape([dot], [0], [NOTHING] * 2048), 0), (shape([dot], [0], [NOTHING] * 2049), -1)):
            self.assertEqual(told(*setting(), call)[-1], [answer], call[:30])

    def test_not_the_time_comes_behind_the_bounds(self):
        self.assertEqual(told(shape([]), shape([(0, 0, 0)] * 65), shape([], [0]), shape([], [], [IF] * 2049)),
                         [[-2], [-1], [-1], [-1]])

    def test_places_are_scaled_and_mark_1_is_bit_0(self):
        found = told(init(1000), size(12), shape([(1, -1, 255), (2, -2, 254), (32767, -32768, 1), (651, -651, 0)]),
                     points(1))
        # 64 * 12 / 1000 = 0.768; 651 comes to 499.968.
        self.assertEqual(found[-1], [0, 4, 1, -1, 1, 2, -2, 0, 25165, -25166, 1, 500, -500, 0])

    def test_of_two_equally_near_the_greater(self):
        found = told(init(128), size(1), shape([(1, -1, 0), (3, -3, 0)]), points(1))
        self.assertEqual(found[-1], [0, 2, 1, 0, 0, 2, -1, 0])

    def test_at_the_largest_scale(self):
        found = told(init(16), size(1000), shape([(32767, -32768, 0)]), points(1))
        self.assertEqual(found[-1], [0, 1, 131068000, -131072000, 0])

    def test_both_zones_are_the_shapes(self):
        code = push(0) + [ROUND_POINT] + push(0) + [0x16] + push(0, 55) + [SET_PLACE]
        found = told(*setting(twilight=1), shape(TWO, [], code), points(0), points(1), shape(TWO), points(0), points(1))
        self.assertEqual(found[5:], [[0, 1, 55, 0, 2], [0, 2, 0, 20, 3, 30, 40, 0], [0], [0, 1, 0, 0, 0],
                                     [0, 2, 10, 20, 1, 30, 40, 0]])

    def test_the_seven_are_what_the_size_left_unless_plain(self):
        least_distance = push(0) + [0x10] + push(1) + [0xC8]
        for said, x in ((0, 100), (1, 74), (9, 74)):
            found = told(*setting(size_code=push(90) + [0x1A] + push(said, 2) + [0x8E]),
                         shape([(10, 0, 0), (11, 0, 0)], [], least_distance), points(1))
            self.assertEqual(found[-1], [0, 2, 10, 0, 0, x, 0, 2])

    def test_at_a_fault_or_refusal_the_old_shape_stays(self):
        wild = push(0, 1) + [SET_CELL] + push(0, 1) + [0x44] + push(0) + [0x16] + push(0, 1) + [SET_PLACE, 0x28]
        for refused, answer in ((shape(TWO, [1], wild), [-5, 5, len(wild) - 1, 0, 0x28, 11]),
                                (shape(TWO, [2]), [-1]), (shape([(0, 0, 0)] * 65), [-1])):
            found = told(*setting(twilight=1, cells=1, controls=[6]), shape([(1, 2, 1)]), refused, points(0), points(1),
                         shape(TWO, [], push(0, 0) + [GET_CELL, SET_PLACE] + push(1, 0) + [GET_CONTROL, SET_PLACE]),
                         points(1), points(0))
            self.assertEqual(found[5:], [answer, [0, 1, 0, 0, 0], [0, 1, 1, 2, 1], [0], [0, 2, 0, 20, 3, 6, 40, 2],
                                         [0, 1, 0, 0, 0]])


class Points(unittest.TestCase):
    def test_bounds_and_time(self):
        self.assertEqual(told(points(0), points(1), points(2), points(4294967295)), [[-2], [-2], [-1], [-1]])
        self.assertEqual(told(*setting(), points(0), points(2))[-2:], [[-2], [-1]])
        self.assertEqual(told(*setting(), shape([]), points(0), points(1), points(2))[-3:], [[0, 0], [0, 0], [-1]])

    def test_marks_are_added(self):
        code = push(0) + [0x2E, 0x00] + push(1) + [0x2E] + push(2) + [0x2E, 0x01] + push(2) + [0x2E]
        found = told(*setting(), shape([(1, 2, 1), (3, 4, 0), (5, 6, 1), (7, 8, 1)], [], code), points(1))
        self.assertEqual(found[-1], [0, 4, 1, 2, 3, 3, 4, 4, 5, 6, 7, 7, 8, 1])

    def test_asking_changes_nothing(self):
        found = told(*setting(), shape(TWO), points(1), points(1), points(2), points(1))
        self.assertEqual(found[5], found[6])
        self.assertEqual(found[5], found[8])


if __name__ == "__main__":
    unittest.main()
