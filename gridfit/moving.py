"""Measuring and moving points by the vectors of the state."""

from gridfit.reckon import along, way
from gridfit.zones import TOUCHED_X, TOUCHED_Y, less


def now_of(run, point):
    return along(run.projection, point.now[0], point.now[1])


def old_of(run, point):
    return along(run.old_projection, point.old[0], point.old[1])


def now_between(run, point, base):
    line = less(point.now, base.now)
    return along(run.projection, line[0], line[1])


def old_between(run, point, base):
    line = less(point.old, base.old)
    return along(run.old_projection, line[0], line[1])


def way_of(run, distance):
    return way(run.freedom, run.projection, distance)


def free_marks(run):
    """The marks of the axes on which the freedom vector lets a point move."""
    marks = 0
    if run.freedom[0] != 0:
        marks += TOUCHED_X
    if run.freedom[1] != 0:
        marks += TOUCHED_Y
    return marks


def shift_and_touch(run, point, step):
    point.shift(step)
    point.mark(free_marks(run))


def move(run, point, distance):
    shift_and_touch(run, point, way_of(run, distance))
