"""Calls and programs put together, and answers taken apart, for all the tests."""

from gridfit.machine import answers

# Instructions that the tests use to bring numbers in and out of a program.
SWAP, DEPTH, ADD, MUL, ENDF, FDEF, CALL, LOOPCALL = 0x23, 0x24, 0x60, 0x63, 0x2D, 0x2C, 0x2B, 0x2A
IF, ELSE, EIF, JUMP, SET_PLACE, ALL_ZONES, ALL_TO_X = 0x58, 0x1B, 0x59, 0x1C, 0x48, 0x16, 0x01

LEAST = -2 ** 31
MOST = 2 ** 31 - 1


def init(units, twilight=0, cells=0):
    return [0, units, twilight, cells]


def values(row):
    return [1, len(row)] + list(row)


def font(code):
    return [2, len(code)] + list(code)


def size(dots, code=()):
    return [3, dots, len(code)] + list(code)


def shape(points, ends=(), code=()):
    flat = [number for point in points for number in point]
    return [4, len(flat)] + flat + [len(ends)] + list(ends) + [len(code)] + list(code)


def points(zone):
    return [5, zone]


def get(what, i):
    return [6, what, i]


def state():
    return [7]


def unit(x, y):
    return [8, x, y]


def rounded(how, byte, d):
    return [9, how, byte, d]


def along(vx, vy, x, y):
    return [10, vx, vy, x, y]


def told(*calls):
    """The answer of each call, as lists."""
    rest = answers([number for call in calls for number in call])
    found = []
    while rest:
        found.append(rest[1:1 + rest[0]])
        rest = rest[1 + rest[0]:]
    return found


def word(number):
    return [number // 256 % 256, number % 256]


def push(*numbers):
    """Code that gives these numbers of 32 bits, the last on top."""
    code = []
    for number in numbers:
        low = (number + 32768) % 65536 - 32768
        if number == low:
            code += [0xB8] + word(number)
        else:
            high = (number - low) // 65536
            code += [0xB8] + word(high) + [0xB8, 64, 0, MUL, 0xB8, 64, 0, MUL, 0xB8] + word(low) + [ADD]
    return code


def function(number, body):
    return push(number) + [FDEF] + list(body) + [ENDF]


def setting(dots=1, twilight=0, cells=0, controls=(), font_code=(), size_code=()):
    """Calls up to a size; units are chosen so that a font unit is a 64th of a dot."""
    return [init(64 * dots, twilight, cells), values(controls), font(font_code), size(dots, size_code)]


def zones(outline, code, ends=(), **others):
    """Both zones behind a shape's program, each as a list of (x, y, marks)."""
    found = told(*setting(**others), shape(outline, ends, code), points(0), points(1))
    for answer in found:
        if answer[0] != 0:
            raise AssertionError(f"refused: {found}")
    return [[tuple(answer[2 + 3 * i:5 + 3 * i]) for i in range(answer[1])] for answer in found[-2:]]


def fitted(outline, code, ends=(), **others):
    return zones(outline, code, ends, **others)[1]


def answer_of_shape(outline, code, ends=(), **others):
    return told(*setting(**others), shape(outline, ends, code))[-1]


def write_out(count):
    """Code that puts the topmost numbers into the x of points 0, 1 .. of zone 1, the topmost first."""
    code = push(1) + [ALL_ZONES, ALL_TO_X]
    for number in range(count):
        code += push(number) + [SWAP, SET_PLACE]
    return code


def stack_behind(code, outline=(), ends=(), **others):
    """The whole stack behind a shape's program, the topmost last; it has at most 64 numbers."""
    full = list(outline) + [(0, 0, 0)] * (64 - len(outline))
    depth = fitted(full, list(code) + [DEPTH] + write_out(1), ends, **others)[0][0]
    found = fitted(full, list(code) + write_out(depth), ends, **others)
    return [point[0] for point in found[:depth]][::-1]
