"""Points, their places and their marks."""

from gridfit.reckon import cut

ON_CURVE = 1
TOUCHED_X = 2
TOUCHED_Y = 4


class Point:
    """A point with its original place, its place now (each a list of x and y) and its marks, added."""

    def __init__(self, x, y, marks):
        self.old = [x, y]
        self.now = [x, y]
        self.marks = marks

    def twin(self):
        other = Point(self.old[0], self.old[1], self.marks)
        other.now = list(self.now)
        return other

    def put(self, place):
        """Original place and place now become this pair."""
        self.old = [cut(place[0]), cut(place[1])]
        self.now = list(self.old)

    def shift(self, step):
        self.now = [cut(self.now[0] + step[0]), cut(self.now[1] + step[1])]

    def mark(self, marks):
        self.marks = self.marks | marks

    def unmark(self, marks):
        self.marks = self.marks & (7 - marks)


def points_at_zero(count):
    return [Point(0, 0, 0) for number in range(count)]


def twins(zone):
    return [point.twin() for point in zone]


def less(place, other):
    """The difference of two places, which is never cut."""
    return (place[0] - other[0], place[1] - other[1])
