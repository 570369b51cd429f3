"""Instructions of the stack, cells, control values and numbers."""

from gridfit.faults import Fault
from gridfit.reckon import cut_to_16, near, scaled
from gridfit.run import within


def push_bytes(run):
    """40, and B0 to B7: what was counted stands behind the byte, or behind the byte and its n."""
    first = run.place + 2 if run.byte == 0x40 else run.place + 1
    for place in range(first, run.after):
        run.give(run.code[place])


def push_words(run):
    first = run.place + 2 if run.byte == 0x41 else run.place + 1
    for place in range(first, run.after, 2):
        run.give(cut_to_16(256 * run.code[place] + run.code[place + 1]))


def duplicate(run):
    number = run.take()
    run.give(number)
    run.give(number)


def drop(run):
    run.take()


def empty(run):
    run.stack.clear()


def swap(run):
    top = run.take()
    below = run.take()
    run.give(top)
    run.give(below)


def give_depth(run):
    run.give(len(run.stack))


def place_from_top(run):
    """Where in the stack the k-th from the top is, k being taken."""
    from_top = run.take()
    if from_top < 1 or from_top > len(run.stack):
        raise Fault(3)
    return len(run.stack) - from_top


def copy_from_depth(run):
    place = place_from_top(run)
    run.give(run.stack[place])


def draw_from_depth(run):
    place = place_from_top(run)
    run.give(run.stack.pop(place))


def roll(run):
    third = run.take()
    second = run.take()
    first = run.take()
    run.give(second)
    run.give(third)
    run.give(first)


def write_cell(run):
    number = run.take()
    cells = run.ground.cells
    cells[within(run.take(), len(cells))] = number


def read_cell(run):
    cells = run.ground.cells
    run.give(cells[within(run.take(), len(cells))])


def write_control(run):
    number = run.take()
    if run.byte == 0x70:
        number = scaled(number, run.ground.dots, run.ground.units)
    controls = run.ground.controls
    controls[within(run.take(), len(controls))] = number


def read_control(run):
    controls = run.ground.controls
    run.give(controls[within(run.take(), len(controls))])


def give_truth(run, truth):
    run.give(1 if truth else 0)


def holds(byte, first, second):
    if byte == 0x50:
        return first < second
    if byte == 0x51:
        return first <= second
    if byte == 0x52:
        return first > second
    if byte == 0x53:
        return first >= second
    if byte == 0x54:
        return first == second
    return first != second


def compare(run):
    second = run.take()
    first = run.take()
    give_truth(run, holds(run.byte, first, second))


def ask_parity(run):
    odd = run.round_number(run.take()) // 64 % 2 == 1
    give_truth(run, odd == (run.byte == 0x56))


def ask_both(run):
    second = run.take()
    first = run.take()
    give_truth(run, first != 0 and second != 0)


def ask_either(run):
    second = run.take()
    first = run.take()
    give_truth(run, first != 0 or second != 0)


def ask_zero(run):
    give_truth(run, run.take() == 0)


def add_two(run):
    second = run.take()
    run.give(run.take() + second)


def take_away(run):
    second = run.take()
    run.give(run.take() - second)


def divide(run):
    below = run.take()
    above = run.take()
    if below == 0:
        raise Fault(8)
    size = 64 * abs(above) // abs(below)
    run.give(size if (above < 0) == (below < 0) else -size)


def multiply(run):
    second = run.take()
    run.give(near(run.take() * second, 64))


def give_size(run):
    run.give(abs(run.take()))


def negate(run):
    run.give(-run.take())


def go_down(run):
    run.give(64 * (run.take() // 64))


def go_up(run):
    run.give(64 * ((run.take() + 63) // 64))


def give_greater(run):
    second = run.take()
    run.give(max(run.take(), second))


def give_lesser(run):
    second = run.take()
    run.give(min(run.take(), second))


def give_rounded(run):
    run.give(run.round_number(run.take()))


def give_back(run):
    run.give(run.take())


def give_dots(run):
    run.give(run.ground.dots)


def give_kind(run):
    run.give(40 if run.take() % 2 == 1 else 0)


ACTS = {
    0x20: duplicate, 0x21: drop, 0x22: empty, 0x23: swap, 0x24: give_depth,
    0x25: copy_from_depth, 0x26: draw_from_depth, 0x8A: roll,
    0x40: push_bytes, 0x41: push_words,
    0x42: write_cell, 0x43: read_cell, 0x44: write_control, 0x70: write_control, 0x45: read_control,
    0x50: compare, 0x51: compare, 0x52: compare, 0x53: compare, 0x54: compare, 0x55: compare,
    0x56: ask_parity, 0x57: ask_parity, 0x5A: ask_both, 0x5B: ask_either, 0x5C: ask_zero,
    0x60: add_two, 0x61: take_away, 0x62: divide, 0x63: multiply,
    0x64: give_size, 0x65: negate, 0x66: go_down, 0x67: go_up, 0x8B: give_greater, 0x8C: give_lesser,
    0x68: give_rounded, 0x69: give_rounded, 0x6A: give_rounded, 0x6B: give_rounded,
    0x6C: give_back, 0x6D: give_back, 0x6E: give_back, 0x6F: give_back,
    0x4B: give_dots, 0x4C: give_dots, 0x88: give_kind,
    0x7E: drop, 0x7F: drop, 0x85: drop, 0x8D: drop,
}


def stack_act(byte):
    """What carries this byte out, or None."""
    if 0xB0 <= byte <= 0xB7:
        return push_bytes
    if 0xB8 <= byte <= 0xBF:
        return push_words
    return ACTS.get(byte)
