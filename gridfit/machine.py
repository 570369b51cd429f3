"""The calls on one object, and their answers."""

from gridfit.carry import fault_of
from gridfit.ground import ground_for_shape, new_ground
from gridfit.reckon import along, scaled, unit
from gridfit.rounding import BY_BYTE_ACROSS, OFF, rounded
from gridfit.run import FONT, SHAPE, SIZE, Run
from gridfit.zones import Point

CODE_LIMIT = 2048

DONE = 0
OUT_OF_BOUNDS = -1
NOT_THE_TIME = -2
PROGRAM_FAULT = -5

CELLS = 0
CONTROLS = 1
OLD_X = 2
OLD_Y = 3


class Calls:
    """The list that is handed in, read from its beginning to its end."""

    def __init__(self, numbers):
        self.numbers = numbers
        self.place = 0

    def more(self):
        return self.place < len(self.numbers)

    def read_number(self):
        self.place += 1
        return self.numbers[self.place - 1]

    def read_row(self):
        """A row of its own, with how many numbers it has before it."""
        length = self.read_number()
        self.place += length
        return self.numbers[self.place - length:self.place]


class Machine:
    """What lasts from call to call; size is the ground that a size's program left, shape its two zones."""

    def __init__(self):
        self.units = 16
        self.point_count = 0
        self.cell_count = 0
        self.told_controls = []
        self.font = []
        self.functions = {}
        self.size = None
        self.shape = None


def forget_size(machine):
    machine.size = None
    machine.shape = None


def call_init(machine, calls):
    units = calls.read_number()
    point_count = calls.read_number()
    cell_count = calls.read_number()
    if units < 16 or units > 16384 or point_count > 16 or cell_count > 64:
        return [OUT_OF_BOUNDS]
    machine.units = units
    machine.point_count = point_count
    machine.cell_count = cell_count
    machine.told_controls = []
    machine.font = []
    machine.functions = {}
    forget_size(machine)
    return [DONE]


def call_values(machine, calls):
    row = calls.read_row()
    if len(row) > 64:
        return [OUT_OF_BOUNDS]
    machine.told_controls = row
    forget_size(machine)
    return [DONE]


def ground_of(machine, dots):
    """A new ground; with 0 dots, as the font's program has it, every control value is 0."""
    controls = [scaled(value, dots, machine.units) for value in machine.told_controls]
    return new_ground(machine.units, dots, machine.cell_count, controls, machine.point_count)


def call_font(machine, calls):
    code = calls.read_row()
    if len(code) > CODE_LIMIT:
        return [OUT_OF_BOUNDS]
    functions = {}
    fault = fault_of(Run(FONT, ground_of(machine, 0), code, code, functions))
    if len(fault) > 0:
        return [PROGRAM_FAULT] + fault
    machine.font = code
    machine.functions = functions
    forget_size(machine)
    return [DONE]


def call_size(machine, calls):
    dots = calls.read_number()
    code = calls.read_row()
    if dots < 1 or dots > 1000 or len(code) > CODE_LIMIT:
        return [OUT_OF_BOUNDS]
    ground = ground_of(machine, dots)
    fault = fault_of(Run(SIZE, ground, code, machine.font, machine.functions))
    if len(fault) > 0:
        return [PROGRAM_FAULT] + fault
    machine.size = ground
    machine.shape = None
    return [DONE]


def ends_fit(ends, point_count):
    before = -1
    for end in ends:
        if end <= before or end >= point_count:
            return False
        before = end
    return True


def outline_of(size, points):
    outline = []
    for place in range(0, len(points), 3):
        x = scaled(points[place], size.dots, size.units)
        y = scaled(points[place + 1], size.dots, size.units)
        outline.append(Point(x, y, points[place + 2] % 2))
    return outline


def call_shape(machine, calls):
    points = calls.read_row()
    ends = calls.read_row()
    code = calls.read_row()
    point_count = len(points) // 3
    if point_count > 64 or len(ends) > 8 or len(code) > CODE_LIMIT or not ends_fit(ends, point_count):
        return [OUT_OF_BOUNDS]
    if machine.size is None:
        return [NOT_THE_TIME]
    ground = ground_for_shape(machine.size, outline_of(machine.size, points), ends)
    if machine.size.still == 0:
        fault = fault_of(Run(SHAPE, ground, code, machine.font, machine.functions))
        if len(fault) > 0:
            return [PROGRAM_FAULT] + fault
    machine.shape = (ground.twilight, ground.outline)
    return [DONE]


def call_points(machine, calls):
    zone_number = calls.read_number()
    if zone_number > 1:
        return [OUT_OF_BOUNDS]
    if machine.shape is None:
        return [NOT_THE_TIME]
    zone = machine.shape[zone_number]
    told = [DONE, len(zone)]
    for point in zone:
        told.extend([point.now[0], point.now[1], point.marks])
    return told


def count_to_get(machine, what):
    # Asked of the machine and not of its size: a number out of bounds is refused as such without a size too.
    if what == CELLS:
        return machine.cell_count
    if what == CONTROLS:
        return len(machine.told_controls)
    return machine.point_count


def number_of_size(size, what, number):
    if what == CELLS:
        return size.cells[number]
    if what == CONTROLS:
        return size.controls[number]
    return size.twilight[number].old[what - OLD_X]


def call_get(machine, calls):
    what = calls.read_number()
    number = calls.read_number()
    if what > OLD_Y or number >= count_to_get(machine, what):
        return [OUT_OF_BOUNDS]
    if machine.size is None:
        return [NOT_THE_TIME]
    return [DONE, number_of_size(machine.size, what, number)]


def call_state(machine, calls):
    size = machine.size
    if size is None:
        return [NOT_THE_TIME]
    kept = size.kept
    seven = [kept.least, kept.cut_in, kept.width, kept.width_cut_in, kept.delta_base, kept.delta_shift, kept.flip]
    return [DONE] + seven + [size.still, size.plain, size.dots]


def call_unit(machine, calls):
    x = calls.read_number()
    y = calls.read_number()
    return [DONE] + list(unit(x, y))


def call_rounded(machine, calls):
    how = calls.read_number()
    byte = calls.read_number() % 256
    number = calls.read_number()
    return [DONE, rounded(OFF if how > BY_BYTE_ACROSS else how, byte, number)]


def call_along(machine, calls):
    vector_x = calls.read_number()
    vector_y = calls.read_number()
    x = calls.read_number()
    y = calls.read_number()
    return [DONE, along((vector_x, vector_y), x, y)]


CALLS = {
    0: call_init, 1: call_values, 2: call_font, 3: call_size, 4: call_shape, 5: call_points,
    6: call_get, 7: call_state, 8: call_unit, 9: call_rounded, 10: call_along,
}


def answers(calls):
    """For each call of the list, in order: how many numbers are answered, and these."""
    machine = Machine()
    source = Calls(calls)
    told = []
    while source.more():
        answer = CALLS[source.read_number()](machine, source)
        told.append(len(answer))
        told.extend(answer)
    return told
