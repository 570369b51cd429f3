"""The document's five promises, over many programs."""

import random
import unittest

from gridfit.machine import answers
from tests.helper import (CALL, LEAST, MOST, along, fitted, function, get, points, push, rounded, setting, shape, size,
                          stack_behind, state, told, unit, zones)

ROUND_POINT, LEAD_Y, LEAD_X = 0x2F, 0x30, 0x31
OUTLINE = [(13, -7, 1), (200, 55, 0), (321, 400, 1), (-90, 333, 0), (5, 5, 1), (77, -300, 1)]


def any_bytes(source, likely):
    """A program of any bytes, or one that pushes small numbers between likely instructions."""
    if not likely:
        return [source.randrange(256) for place in range(source.randrange(60))]
    code = []
    for place in range(source.randrange(25)):
        code += [0xB2] + [source.randrange(6) for number in range(3)] + [source.randrange(256)]
    return code


def all_of_a_size(count):
    """Asks for all that a size has, with so many cells, control values and points."""
    return [state()] + [get(what, i) for what in range(4) for i in range(count)]


class Ending(unittest.TestCase):
    def check_told(self, answer, code, whole_font):
        if answer[0] == 0:
            self.assertEqual(answer, [0])
            return
        self.assertEqual(answer[0], -5)
        number, place, whose, byte, count = answer[1:]
        self.assertIn(number, range(1, 9))
        self.assertIn(whose, (0, 1))
        self.assertIn(count, range(5001))
        self.assertEqual(number == 7, count == 5000 and place < len(whole_font if whose else code))
        owner = whole_font if whose else code
        self.assertEqual(byte, owner[place] if place < len(owner) else 0)
        if place == len(owner):
            self.assertEqual((number, whose), (4, 1))

    def test_programs_of_any_bytes(self):
        source = random.Random(7)
        for turn in range(400):
            code = any_bytes(source, turn % 2 == 1)
            whole_font = function(0, any_bytes(source, True)) if turn % 3 == 0 else []
            begun = setting(dots=9, twilight=4, cells=4, controls=[5, 60, -70, 800], font_code=whole_font)
            found = told(*begun, size(9, code), shape(OUTLINE, [2, 5], code), points(1))
            if found[2] != [0]:
                continue
            self.check_told(found[4], code, whole_font)
            self.check_told(found[5], code, whole_font)

    def test_what_fails_leaves_nothing(self):
        source = random.Random(8)
        for turn in range(400):
            wild = any_bytes(source, turn % 4 > 0)
            begun = setting(dots=9, twilight=4, cells=4, controls=[5, 60, -70, 800], font_code=function(0, []))
            begun += [shape(OUTLINE, [2, 5], push(0) + [ROUND_POINT])]
            after = [points(0), points(1), *all_of_a_size(4)]
            after += [shape(OUTLINE, [2, 5], push(1) + [0xC8, 0x31]), points(1), points(0)]
            for call in (size(9, wild), shape(OUTLINE, [2, 5], wild)):
                found = told(*begun, call, *after)
                if found[5][0] != 0:
                    self.assertEqual(found[6:], told(*begun, *after)[5:])


class TheSame(unittest.TestCase):
    WILD = (push(0, 9) + [0x42] + push(0, 8) + [0x44] + push(0x08, 1, 1) + [0x73] + push(77) + [0x1A, 0x4E]
            + push(5) + [0x1D] + push(0) + [0x16] + push(0, 7) + [0x48] + push(1, 0) + [0xF8] + push(1) + [0x2F])
    READ = (push(0, 0) + [0x43, 0x48] + push(1, 0) + [0x45, 0x48] + push(2, 1) + [0x45, 0x48] + push(3) + [0xD8]
            + push(4, 0) + [0xFC] + push(0) + [0x10] + push(0) + [0x13] + push(5) + [0x3C])

    def test_whatever_a_shape_did_before(self):
        begun = setting(dots=9, twilight=2, cells=1, controls=[60, -70], size_code=push(0, 3) + [0x42])
        asked = [shape(OUTLINE, [5], self.READ), points(0), points(1)]
        first = told(*begun, *asked)[4:]
        self.assertEqual(first[0], [0])
        again = told(*begun, shape(OUTLINE, [5], self.WILD), points(0), *asked, shape([], [], self.WILD), *asked, *asked)
        self.assertEqual(again[4], [0])
        self.assertNotEqual(again[5], first[1])
        self.assertEqual(again[6:9], first)
        self.assertEqual(again[10:13], first)
        self.assertEqual(again[13:16], first)

    def test_over_many_programs(self):
        source = random.Random(9)
        for turn in range(300):
            begun = setting(dots=9, twilight=3, cells=3, controls=[60, -70, 5],
                            font_code=function(0, any_bytes(source, True) if turn % 5 == 0 else [0x59]))
            if told(*begun)[2] != [0]:
                continue
            before = shape(OUTLINE, [2, 5], self.WILD + any_bytes(source, True))
            asked = [shape(OUTLINE, [2, 5], any_bytes(source, True)), points(0), points(1)]
            self.assertEqual(told(*begun, before, *asked)[5:6], told(*begun, *asked)[4:5])
            if told(*begun, *asked)[4] == [0]:
                self.assertEqual(told(*begun, before, *asked)[5:], told(*begun, *asked)[4:])
            sizes = all_of_a_size(3)
            self.assertEqual(told(*begun, before, *asked, *sizes)[8:], told(*begun, *sizes)[4:])

    def test_the_list_and_its_answers(self):
        source = random.Random(10)
        for turn in range(100):
            code = any_bytes(source, True)
            calls = [number for call in setting(dots=9, twilight=3, cells=3, controls=[60, -70, 5], size_code=code)
                     + [shape(OUTLINE, [2, 5], code), points(0), points(1)] for number in call]
            before = list(calls)
            first = answers(calls)
            self.assertEqual(calls, before)
            self.assertEqual(answers(calls), first)


EDGES = [0, 1, -1, 31, 32, 33, -32, 63, 64, -64, 16384, -16384, 32767, -32768, 65536, MOST, MOST - 31, LEAST, LEAST + 1]


def any_number(source):
    if source.randrange(3) == 0:
        return source.choice(EDGES)
    most = 2 ** source.choice([3, 8, 14, 22, 31])
    return source.randrange(-most, most)


def with_sign_of_16(number):
    return (number + 32768) % 65536 - 32768


class WhatProgramsReckonBy(unittest.TestCase):
    """The calls unit, rounded and along against programs that come to the same with the same numbers."""

    # What brings each way of rounding about; those by a byte take it from the stack.
    WAYS = [0x19, 0x18, 0x3D, 0x7D, 0x7C, 0x7A, 0x76, 0x77]

    def told_number(self, call):
        return told(call)[0][1]

    def place_both(self, number, x, y):
        """Code that brings a point of zone 1 to any place of 32 bits."""
        return [0x01] + push(number, x) + [0x48, 0x00] + push(number, y) + [0x48, 0x01]

    def test_unit_of_vectors_set_by_numbers_and_given_back(self):
        source = random.Random(15)
        for turn in range(150):
            x, y = any_number(source), any_number(source)
            wanted = told(unit(with_sign_of_16(x), with_sign_of_16(y)))[0][1:]
            for set_vector, give_vector in ((0x0A, 0x0C), (0x0B, 0x0D)):
                self.assertEqual(stack_behind(push(x, y) + [set_vector, give_vector]), wanted, (x, y))

    def test_unit_of_vectors_set_by_points_and_given_back(self):
        source = random.Random(16)
        for turn in range(150):
            x, y = any_number(source), any_number(source)
            # The other point stands at (0, 0), so the difference is this one's place.
            begun = self.place_both(0, x, y) + push(0, 1)
            plain, turned = told(unit(x, y))[0][1:], told(unit(-y, x))[0][1:] if y > LEAST else None
            for set_vector, give_vector, wanted in ((0x06, 0x0C, plain), (0x08, 0x0D, plain), (0x86, 0x0C, plain),
                                                    (0x07, 0x0C, turned), (0x09, 0x0D, turned), (0x87, 0x0C, turned)):
                if wanted is not None:
                    self.assertEqual(stack_behind(begun + [set_vector, give_vector]), wanted, (x, y, set_vector))

    def test_rounded_on_the_stack_in_each_way(self):
        source = random.Random(17)
        for turn in range(480):
            how, byte, number = turn % 8, source.randrange(-300, 300), any_number(source)
            begun = (push(byte) if how > 5 else []) + [self.WAYS[how]] + push(number)
            wanted = self.told_number(rounded(how, byte % 256, number))
            self.assertEqual(stack_behind(begun + [0x68 + turn % 4]), [wanted], (how, byte, number))
            self.assertEqual(stack_behind(begun + [0x56]), [wanted // 64 % 2], (how, byte, number))
            self.assertEqual(stack_behind(begun + [0x57]), [1 - wanted // 64 % 2], (how, byte, number))

    def test_rounded_places_of_points_in_each_way(self):
        source = random.Random(18)
        for turn in range(160):
            how, byte, x = turn % 8, source.randrange(256), source.randrange(-32768, 32768)
            way = (push(byte) if how > 5 else []) + [self.WAYS[how]]
            wanted = self.told_number(rounded(how, byte, x))
            self.assertEqual(fitted([(x, 5, 1)], way + push(0) + [ROUND_POINT]), [(wanted, 5, 3)])
            # A point's distance from another at 0, and a control value's, that is far from any cut-in.
            self.assertEqual(fitted([(0, 0, 0), (x, 5, 1)], way + push(1) + [0xC4])[1], (wanted, 5, 3))
            found = fitted([(0, 0, 0), (x, 5, 1)], way + push(MOST) + [0x1D, 0x4E] + push(1, 0) + [0xE4], controls=[x])
            self.assertEqual(found[1], (wanted, 5, 3))

    def test_along_a_vector_a_points_coordinate(self):
        source = random.Random(19)
        for turn in range(200):
            x, y = any_number(source), any_number(source)
            vector = [source.randrange(-32768, 32768), source.randrange(-32768, 32768)]
            code = self.place_both(0, x, y) + push(*vector) + [0x0A]
            wanted = self.told_number(along(*told(unit(*vector))[0][1:], x, y))
            self.assertEqual(stack_behind(code + push(0) + [0x46]), [wanted], (vector, x, y))
            # The same as a distance from the point 1 at (0, 0).
            self.assertEqual(stack_behind(code + push(0, 1) + [0x49]), [wanted], (vector, x, y))

    def test_along_a_vector_an_original_coordinate(self):
        source = random.Random(20)
        for turn in range(100):
            x, y = source.randrange(-32768, 32768), source.randrange(-32768, 32768)
            vector = [source.randrange(-32768, 32768), source.randrange(-32768, 32768)]
            code = self.place_both(0, 7, 7) + push(*vector) + [0x0A]
            wanted = self.told_number(along(*told(unit(*vector))[0][1:], x, y))
            self.assertEqual(stack_behind(code + push(0) + [0x47], [(x, y, 1)]), [wanted], (vector, x, y))
            self.assertEqual(stack_behind(code + push(0, 1) + [0x4A], [(x, y, 1)]), [wanted], (vector, x, y))


class OnTheGrid(unittest.TestCase):
    def test_every_point_in_both_directions(self):
        source = random.Random(11)
        for turn in range(60):
            count = source.randrange(1, 65)
            outline = [(source.randrange(-32768, 32768), source.randrange(-32768, 32768), source.randrange(256))
                       for number in range(count)]
            body = [0x20, ROUND_POINT] + push(1) + [0x60]
            code = [0x01] + push(0, count, 0) + [0x2A, 0x22, 0x00] + push(0, count, 0) + [0x2A]
            found = zones(outline, code, dots=source.randrange(1, 257), font_code=function(0, body))[1]
            for point, (x, y, marks) in zip(found, outline):
                self.assertEqual(point[0] % 64, 0)
                self.assertEqual(point[1] % 64, 0)
                self.assertEqual(point[2], 6 + marks % 2)
                self.assertLessEqual(max(abs(point[0] - x), abs(point[1] - y)), 32)


class Between(unittest.TestCase):
    def test_in_order_between_two_touched_points(self):
        source = random.Random(12)
        for turn in range(200):
            axis = turn % 2
            span = source.choice([3, 40, 2000, 32767])
            places = [source.randrange(-span, span + 1) for number in range(source.randrange(3, 30))]
            outline = [(0, place, 0) if axis else (place, 0, 0) for place in places]
            first, second = sorted(source.sample(range(len(places)), 2))
            moved = sorted(source.randrange(-span, span + 1) for number in range(2))
            if places[first] > places[second]:
                moved.reverse()
            code = ([0x00] if axis else [0x01]) + push(first, moved[0]) + [0x48] + push(second, moved[1]) + [0x48]
            found = zones(outline, code + [LEAD_Y if axis else LEAD_X], [len(places) - 1])[1]
            inner = [(old, point[axis]) for old, point in zip(places, found)
                     if min(places[first], places[second]) <= old <= max(places[first], places[second])]
            for old, now in inner:
                self.assertTrue(min(moved) <= now <= max(moved))
            inner = sorted(inner)
            for (old, now), (next_old, next_now) in zip(inner, inner[1:]):
                if old < next_old and places[first] != places[second]:
                    self.assertLessEqual(now, next_now)


class ByFunctions(unittest.TestCase):
    def test_a_program_and_the_same_as_a_function_come_to_the_same(self):
        source = random.Random(13)
        for turn in range(150):
            code = push(turn % 6) + [ROUND_POINT] + push((turn + 1) % 6) + [0xC0 + turn % 32] + [LEAD_X, LEAD_Y]
            code += push(source.randrange(6), source.randrange(-500, 500)) + [0x48]
            others = {"dots": 9, "font_code": function(0, code)}
            self.assertEqual(zones(OUTLINE, code, [2, 5], **others), zones(OUTLINE, push(0) + [CALL], [2, 5], **others))


if __name__ == "__main__":
    unittest.main()
