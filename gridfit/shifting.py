"""Instructions that carry points along with others, and deltas."""

from gridfit.moving import move, now_between, old_between, shift_and_touch, way_of
from gridfit.reckon import along, cut, near, part_along, without_sign
from gridfit.run import within
from gridfit.zones import TOUCHED_X, TOUCHED_Y, less

DELTA_STARTS = {0x5D: 0, 0x71: 16, 0x72: 32, 0x73: 0, 0x74: 16, 0x75: 32}


def in_proportion(distance, span_old, span_now):
    if distance == 0:
        return 0
    if span_old == 0:
        return distance
    return cut(near(distance * span_now, span_old))


def keep_proportion(run):
    numbers = run.take_loop()
    first = run.reference(1, 0)
    second = run.reference(2, 1)
    span_old = old_between(run, second, first)
    span_now = now_between(run, second, first)
    for number in numbers:
        point = run.point(2, number)
        wanted = in_proportion(old_between(run, point, first), span_old, span_now)
        move(run, point, wanted - now_between(run, point, first))


class Lead:
    """A reference point that leads others: its zone's number, its own, and the step by which it has moved."""

    def __init__(self, zone_number, number, step):
        self.zone_number = zone_number
        self.number = number
        self.step = step


def lead_of(run):
    """Of the odd bytes r1 of z0 leads, of the others r2 of z1."""
    which = 1 if run.byte % 2 == 1 else 2
    pointer = 0 if run.byte % 2 == 1 else 1
    point = run.reference(which, pointer)
    moved = less(point.now, point.old)
    step = way_of(run, along(run.projection, moved[0], moved[1]))
    return Lead(run.pointers[pointer], without_sign(run.references[which]), step)


def shift_points(run):
    numbers = run.take_loop()
    lead = lead_of(run)
    for number in numbers:
        shift_and_touch(run, run.point(2, number), lead.step)


def contour_start(ends, contour):
    return 0 if contour == 0 else ends[contour - 1] + 1


def shift_contour(run):
    ends = run.ground.ends
    contour = within(run.take(), len(ends))
    lead = lead_of(run)
    for number in range(contour_start(ends, contour), ends[contour] + 1):
        if lead.zone_number != 1 or lead.number != number:
            shift_and_touch(run, run.ground.outline[number], lead.step)


def shift_zone(run):
    zone_number = within(run.take(), 2)
    lead = lead_of(run)
    for number, point in enumerate(run.zone(zone_number)):
        if lead.zone_number != zone_number or lead.number != number:
            point.shift(lead.step)


def shift_by_number(run):
    step = part_along(run.freedom, run.take())
    for number in run.take_loop():
        shift_and_touch(run, run.point(2, number), step)


def led_place(point, one, other, axis):
    """The place on this axis of a point that lies between two touched ones, led by these."""
    low = other if other.old[axis] < one.old[axis] else one
    high = one if other.old[axis] < one.old[axis] else other
    old = point.old[axis]
    if old <= low.old[axis]:
        return low.now[axis] + (old - low.old[axis])
    if old >= high.old[axis]:
        return high.now[axis] + (old - high.old[axis])
    span_old = high.old[axis] - low.old[axis]
    span_now = high.now[axis] - low.now[axis]
    return low.now[axis] + near((old - low.old[axis]) * span_now, span_old)


def lead_by_one(points, touched, axis):
    leader = points[touched]
    moved = leader.now[axis] - leader.old[axis]
    for number, point in enumerate(points):
        if number != touched:
            point.now[axis] = cut(point.now[axis] + moved)


def lead_by_two(points, first, second, axis):
    """All points behind the first up to the second, round the contour."""
    number = (first + 1) % len(points)
    while number != second:
        points[number].now[axis] = cut(led_place(points[number], points[first], points[second], axis))
        number = (number + 1) % len(points)


def lead_contour(points, axis):
    mark = TOUCHED_X if axis == 0 else TOUCHED_Y
    touched = [number for number, point in enumerate(points) if (point.marks & mark) != 0]
    if len(touched) == 1:
        lead_by_one(points, touched[0], axis)
    if len(touched) > 1:
        for place, first in enumerate(touched):
            lead_by_two(points, first, touched[(place + 1) % len(touched)], axis)


def lead_along(run):
    axis = 1 if run.byte == 0x30 else 0
    ends = run.ground.ends
    for contour, end in enumerate(ends):
        lead_contour(run.ground.outline[contour_start(ends, contour):end + 1], axis)


def take_pairs(run):
    """The pairs of a delta as (a, number), the topmost first."""
    count = without_sign(run.take())
    numbers = run.take_many(2 * count)
    return [(numbers[2 * place + 1], numbers[2 * place]) for place in range(count)]


def delta_holds(run, told):
    """Whether this is the size that the pair's first number tells."""
    return told // 16 % 16 + run.ground.kept.delta_base + DELTA_STARTS[run.byte] == run.ground.dots


def delta_amount(run, told):
    choice = told % 16
    steps = choice - 8 if choice < 8 else choice - 7
    return steps * (64 >> run.ground.kept.delta_shift)


def delta_points(run):
    for told, number in take_pairs(run):
        point = run.point(0, number)
        if delta_holds(run, told):
            move(run, point, delta_amount(run, told))


def delta_controls(run):
    controls = run.ground.controls
    for told, number in take_pairs(run):
        place = within(number, len(controls))
        if delta_holds(run, told):
            controls[place] = cut(controls[place] + delta_amount(run, told))


ACTS = {
    0x39: keep_proportion, 0x32: shift_points, 0x33: shift_points, 0x34: shift_contour, 0x35: shift_contour,
    0x36: shift_zone, 0x37: shift_zone, 0x38: shift_by_number, 0x30: lead_along, 0x31: lead_along,
    0x5D: delta_points, 0x71: delta_points, 0x72: delta_points,
    0x73: delta_controls, 0x74: delta_controls, 0x75: delta_controls,
}


def shift_act(byte):
    """What carries this byte out, or None."""
    return ACTS.get(byte)
