"""Instructions of the state: vectors, reference points, zones, ways of rounding, kept numbers."""

from gridfit.faults import Fault
from gridfit.reckon import cut_to_16, scaled, unit
from gridfit.rounding import BY_BYTE, BY_BYTE_ACROSS
from gridfit.run import SIZE, X_AXIS, Y_AXIS, within
from gridfit.zones import less

LOOP_LIMIT = 65535
SHIFT_LIMIT = 6

# The ways stand here by the numbers that gridfit.rounding names: grid, half, double, down, up, off.
WAYS = {0x18: 1, 0x19: 0, 0x3D: 2, 0x7D: 3, 0x7C: 4, 0x7A: 5}


def project_along(run, vector):
    run.projection = vector
    run.old_projection = vector


def set_axis(run):
    """00 to 05: the odd bytes mean x; 00 to 03 set P and Q, and all but 02 and 03 set F."""
    axis = X_AXIS if run.byte % 2 == 1 else Y_AXIS
    if run.byte < 0x04:
        project_along(run, axis)
    if run.byte < 0x02 or run.byte > 0x03:
        run.freedom = axis


def unit_of_line(run, line):
    """The unit vector of a difference of places, turned by a right angle where the byte is odd."""
    if run.byte % 2 == 1:
        return unit(-line[1], line[0])
    return unit(line[0], line[1])


def set_by_line(run):
    second = run.take()
    first = run.take()
    line = less(run.point(1, first).now, run.point(2, second).now)
    vector = unit_of_line(run, line)
    if run.byte < 0x08:
        project_along(run, vector)
    else:
        run.freedom = vector


def project_by_line(run):
    second = run.take()
    first = run.take()
    start = run.point(2, second)
    end = run.point(1, first)
    run.old_projection = unit_of_line(run, less(end.old, start.old))
    run.projection = unit_of_line(run, less(end.now, start.now))


def set_by_numbers(run):
    y = cut_to_16(run.take())
    x = cut_to_16(run.take())
    if run.byte == 0x0A:
        project_along(run, unit(x, y))
    else:
        run.freedom = unit(x, y)


def give_vector(run):
    vector = run.projection if run.byte == 0x0C else run.freedom
    run.give(vector[0])
    run.give(vector[1])


def free_as_projected(run):
    run.freedom = run.projection


def set_reference(run):
    run.references[run.byte - 0x10] = run.take()


def set_pointer(run):
    run.pointers[run.byte - 0x13] = within(run.take(), 2)


def set_all_pointers(run):
    zone = within(run.take(), 2)
    run.pointers = [zone, zone, zone]


def set_loop(run):
    number = run.take()
    if number < 1 or number > LOOP_LIMIT:
        raise Fault(3)
    run.loop = number


def set_rounding(run):
    run.rounding = WAYS[run.byte]


def set_rounding_by_byte(run):
    run.rounding_byte = run.take() % 256
    run.rounding = BY_BYTE if run.byte == 0x76 else BY_BYTE_ACROSS


def set_least(run):
    run.ground.kept.least = run.take()


def set_cut_in(run):
    run.ground.kept.cut_in = run.take()


def set_width_cut_in(run):
    run.ground.kept.width_cut_in = run.take()


def set_width(run):
    run.ground.kept.width = scaled(run.take(), run.ground.dots, run.ground.units)


def set_flip(run):
    run.ground.kept.flip = 1 if run.byte == 0x4D else 0


def set_delta_base(run):
    run.ground.kept.delta_base = run.take() % 65536


def set_delta_shift(run):
    number = run.take()
    if number < 0 or number > SHIFT_LIMIT:
        raise Fault(3)
    run.ground.kept.delta_shift = number


def control_shapes(run):
    which = run.take()
    said = 0 if run.take() == 0 else 1
    if run.kind != SIZE:
        return
    if which == 1:
        run.ground.still = said
    elif which == 2:
        run.ground.plain = said


ACTS = {
    0x00: set_axis, 0x01: set_axis, 0x02: set_axis, 0x03: set_axis, 0x04: set_axis, 0x05: set_axis,
    0x06: set_by_line, 0x07: set_by_line, 0x08: set_by_line, 0x09: set_by_line,
    0x86: project_by_line, 0x87: project_by_line,
    0x0A: set_by_numbers, 0x0B: set_by_numbers, 0x0C: give_vector, 0x0D: give_vector, 0x0E: free_as_projected,
    0x10: set_reference, 0x11: set_reference, 0x12: set_reference,
    0x13: set_pointer, 0x14: set_pointer, 0x15: set_pointer, 0x16: set_all_pointers, 0x17: set_loop,
    0x18: set_rounding, 0x19: set_rounding, 0x3D: set_rounding, 0x7D: set_rounding, 0x7C: set_rounding,
    0x7A: set_rounding, 0x76: set_rounding_by_byte, 0x77: set_rounding_by_byte,
    0x1A: set_least, 0x1D: set_cut_in, 0x1E: set_width_cut_in, 0x1F: set_width,
    0x4D: set_flip, 0x4E: set_flip, 0x5E: set_delta_base, 0x5F: set_delta_shift, 0x8E: control_shapes,
}


def state_act(byte):
    """What carries this byte out, or None."""
    return ACTS.get(byte)
