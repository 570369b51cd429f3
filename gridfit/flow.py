"""Ways through a program: branches, jumps and functions."""

from gridfit.faults import Fault
from gridfit.run import FONT, within

ELSE = 0x1B
FDEF = 0x2C
ENDF = 0x2D
IF = 0x58
EIF = 0x59

NESTING_LIMIT = 8
FUNCTION_COUNT = 256


class Frame:
    """A function under way: the code and place to go back to, where it begins, how often it is still to run."""

    def __init__(self, code, whose, back, start, left):
        self.code = code
        self.whose = whose
        self.back = back
        self.start = start
        self.left = left


def own_length(code, place):
    """How many bytes the instruction at this place says that it has."""
    byte = code[place]
    if byte == 0x40 or byte == 0x41:
        if place + 1 == len(code):
            return 2
        return 2 + (byte - 0x3F) * code[place + 1]
    if 0xB0 <= byte <= 0xB7:
        return 2 + (byte - 0xB0)
    if 0xB8 <= byte <= 0xBF:
        return 3 + 2 * (byte - 0xB8)
    return 1


def behind(code, place):
    """The place behind the instruction at this place."""
    after = place + own_length(code, place)
    if after > len(code):
        raise Fault(4)
    return after


def behind_branch(code, place, else_ends):
    """Behind the EIF (or the ELSE, if that ends the search too) that belongs to the instruction before this place."""
    nested = 0
    while place < len(code):
        byte = code[place]
        place = behind(code, place)
        if byte == IF:
            nested += 1
        elif nested == 0 and (byte == EIF or (else_ends and byte == ELSE)):
            return place
        elif byte == EIF:
            nested -= 1
    raise Fault(4)


def behind_function(code, place):
    while place < len(code):
        byte = code[place]
        place = behind(code, place)
        if byte == FDEF:
            raise Fault(6)
        if byte == ENDF:
            return place
    raise Fault(4)


def begin_branch(run):
    if run.take() == 0:
        run.after = behind_branch(run.code, run.after, True)


def end_first_branch(run):
    run.after = behind_branch(run.code, run.after, False)


def end_branch(run):
    pass


def go_to(run, offset):
    place = run.place + offset
    if place < 0 or place > len(run.code):
        raise Fault(4)
    run.after = place


def jump(run):
    go_to(run, run.take())


def jump_if(run):
    asked = run.take()
    offset = run.take()
    if (asked != 0) == (run.byte == 0x78):
        go_to(run, offset)


def define(run):
    if run.kind != FONT:
        raise Fault(5)
    number = within(run.take(), FUNCTION_COUNT)
    if len(run.frames) > 0:
        raise Fault(6)
    run.functions[number] = run.after
    run.after = behind_function(run.code, run.after)


def end_function(run):
    if len(run.frames) == 0:
        raise Fault(6)
    frame = run.frames[-1]
    frame.left -= 1
    if frame.left > 0:
        run.after = frame.start
        return
    run.frames.pop()
    run.code = frame.code
    run.whose = frame.whose
    run.after = frame.back


def enter(run, number, times):
    start = run.functions.get(within(number, FUNCTION_COUNT))
    if start is None:
        raise Fault(3)
    if times < 1:
        return
    if len(run.frames) == NESTING_LIMIT:
        raise Fault(6)
    run.frames.append(Frame(run.code, run.whose, run.after, start, times))
    run.code = run.font
    run.whose = 1
    run.after = start


def call_once(run):
    enter(run, run.take(), 1)


def call_often(run):
    number = run.take()
    times = run.take()
    enter(run, number, times)


ACTS = {
    0x58: begin_branch, 0x1B: end_first_branch, 0x59: end_branch,
    0x1C: jump, 0x78: jump_if, 0x79: jump_if,
    0x2C: define, 0x2D: end_function, 0x2B: call_once, 0x2A: call_often,
}


def flow_act(byte):
    """What carries this byte out, or None."""
    return ACTS.get(byte)
