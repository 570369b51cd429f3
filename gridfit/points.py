"""Instructions that measure and move single points."""

from gridfit.moving import free_marks, move, now_between, now_of, old_between, old_of, way_of
from gridfit.reckon import cut, near, part_along
from gridfit.run import within
from gridfit.zones import ON_CURVE, TOUCHED_X, TOUCHED_Y, less


def give_coordinate(run):
    point = run.point(2, run.take())
    run.give(now_of(run, point) if run.byte == 0x46 else old_of(run, point))


def set_coordinate(run):
    wanted = run.take()
    point = run.point(2, run.take())
    move(run, point, wanted - now_of(run, point))
    if run.pointers[2] == 0:
        point.put(point.now)


def give_distance(run):
    second = run.take()
    point = run.point(0, run.take())
    base = run.point(1, second)
    run.give(now_between(run, point, base) if run.byte == 0x49 else old_between(run, point, base))


def change_curve_marks(run):
    for number in run.take_loop():
        point = run.point_of_zone(1, number)
        point.marks = point.marks ^ ON_CURVE


def set_curve_marks(run):
    outline = run.ground.outline
    last = run.take()
    first = within(run.take(), len(outline))
    for number in range(first, within(last, len(outline)) + 1):
        if run.byte == 0x81:
            outline[number].mark(ON_CURVE)
        else:
            outline[number].unmark(ON_CURVE)


def untouch(run):
    run.point(0, run.take()).unmark(free_marks(run))


def anchor(run, number):
    run.references[0] = number
    run.references[1] = number


def touch_or_round(run):
    number = run.take()
    point = run.point(0, number)
    place = now_of(run, point)
    wanted = run.round_number(place) if run.byte == 0x2F else place
    move(run, point, wanted - place)
    anchor(run, number)


def control_at(run, number):
    controls = run.ground.controls
    return controls[within(number, len(controls))]


def move_to_control(run):
    control_number = run.take()
    number = run.take()
    control = control_at(run, control_number)
    point = run.point(0, number)
    if run.pointers[0] == 0:
        point.put(part_along(run.freedom, control))
    place = now_of(run, point)
    if run.byte == 0x3F:
        if abs(control - place) > run.ground.kept.cut_in:
            control = place
        control = run.round_number(control)
    move(run, point, control - place)
    anchor(run, number)


def single_width_or(run, distance):
    """The single width, with the distance's sign, where the distance is close to it; else the distance."""
    kept = run.ground.kept
    if abs(distance - kept.width) >= kept.width_cut_in:
        return distance
    return kept.width if distance >= 0 else cut(-kept.width)


def at_least(least, original, distance):
    if original >= 0 and distance < least:
        return least
    if original < 0 and distance > -least:
        return cut(-least)
    return distance


def follow(run, number, leads):
    """The reference points behind a point that was set by its distance from r0."""
    run.references[1] = run.references[0]
    run.references[2] = number
    if leads:
        run.references[0] = number


def set_distance(run, number, original, distance):
    """What C0 to DF and E0 to FF have in common, once the distance is found."""
    if (run.byte & 8) != 0:
        distance = at_least(run.ground.kept.least, original, distance)
    point = run.point(1, number)
    move(run, point, distance - now_between(run, point, run.reference(0, 0)))
    follow(run, number, (run.byte & 16) != 0)


def move_by_original(run):
    number = run.take()
    original = single_width_or(run, old_between(run, run.point(1, number), run.reference(0, 0)))
    distance = original
    if (run.byte & 4) != 0:
        distance = run.round_number(original)
    set_distance(run, number, original, distance)


def fit_control(run, control, original):
    """The control value, or the original distance where both are of one zone and too far apart; rounded."""
    same_zone = run.pointers[0] == run.pointers[1]
    if same_zone and abs(control - original) > run.ground.kept.cut_in:
        control = original
    return run.round_number(control)


def put_from_base(point, base, step):
    point.put((base.old[0] + step[0], base.old[1] + step[1]))


def move_by_control(run):
    control_number = run.take()
    number = run.take()
    control = single_width_or(run, control_at(run, control_number))
    point = run.point(1, number)
    base = run.reference(0, 0)
    if run.pointers[1] == 0:
        put_from_base(point, base, part_along(run.freedom, control))
    original = old_between(run, point, base)
    if run.ground.kept.flip == 1 and (original < 0) != (control < 0):
        control = cut(-control)
    if (run.byte & 4) != 0:
        control = fit_control(run, control, original)
    set_distance(run, number, original, control)


def move_to_distance(run):
    distance = run.take()
    number = run.take()
    point = run.point(1, number)
    base = run.reference(0, 0)
    if run.pointers[1] == 0:
        put_from_base(point, base, way_of(run, distance))
    move(run, point, distance - now_between(run, point, base))
    follow(run, number, run.byte == 0x3B)


def align_with_reference(run):
    for number in run.take_loop():
        point = run.point(1, number)
        move(run, point, -now_between(run, point, run.reference(0, 0)))


def align_two(run):
    second = run.take()
    first = run.take()
    point = run.point(1, first)
    other = run.point(0, second)
    half = now_between(run, other, point) // 2
    move(run, point, half)
    move(run, other, -half)


def cross(line, other):
    return line[0] * other[1] - line[1] * other[0]


def crossing(a, b, c, d):
    """Where the line through a and b meets that through c and d; the middle of all four where they never do."""
    # The two products are terms of one formula, so they are not cut, large as they may be.
    share = cross(less(c, a), less(d, c))
    whole = cross(less(b, a), less(d, c))
    if whole == 0:
        return ((a[0] + b[0] + c[0] + d[0]) // 4, (a[1] + b[1] + c[1] + d[1]) // 4)
    line = less(b, a)
    return (a[0] + near(line[0] * share, whole), a[1] + near(line[1] * share, whole))


def move_to_crossing(run):
    numbers = run.take_many(5)
    d = run.point(0, numbers[0]).now
    c = run.point(0, numbers[1]).now
    b = run.point(1, numbers[2]).now
    a = run.point(1, numbers[3]).now
    point = run.point(2, numbers[4])
    place = crossing(a, b, c, d)
    point.now = [cut(place[0]), cut(place[1])]
    point.mark(TOUCHED_X + TOUCHED_Y)


ACTS = {
    0x46: give_coordinate, 0x47: give_coordinate, 0x48: set_coordinate, 0x49: give_distance, 0x4A: give_distance,
    0x80: change_curve_marks, 0x81: set_curve_marks, 0x82: set_curve_marks, 0x29: untouch,
    0x2E: touch_or_round, 0x2F: touch_or_round, 0x3E: move_to_control, 0x3F: move_to_control,
    0x3A: move_to_distance, 0x3B: move_to_distance, 0x3C: align_with_reference, 0x27: align_two,
    0x0F: move_to_crossing,
}


def point_act(byte):
    """What carries this byte out, or None."""
    if 0xC0 <= byte <= 0xDF:
        return move_by_original
    if 0xE0 <= byte <= 0xFF:
        return move_by_control
    return ACTS.get(byte)
