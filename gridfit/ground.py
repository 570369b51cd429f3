"""What a program works on and leaves behind."""

from gridfit.zones import points_at_zero, twins


class Kept:
    """The seven numbers that a size's program leaves to its shapes."""

    def __init__(self):
        self.least = 64
        self.cut_in = 68
        self.width = 0
        self.width_cut_in = 0
        self.delta_base = 9
        self.delta_shift = 3
        self.flip = 1

    def twin(self):
        other = Kept()
        other.least = self.least
        other.cut_in = self.cut_in
        other.width = self.width
        other.width_cut_in = self.width_cut_in
        other.delta_base = self.delta_base
        other.delta_shift = self.delta_shift
        other.flip = self.flip
        return other


class Ground:
    """Cells, control values, both zones and the kept numbers, at one size."""

    def __init__(self, units, dots, cells, controls, twilight):
        self.units = units
        self.dots = dots
        self.cells = cells
        self.controls = controls
        self.twilight = twilight
        self.outline = []
        self.ends = []
        self.kept = Kept()
        self.still = 0
        self.plain = 0


def new_ground(units, dots, cell_count, controls, point_count):
    cells = [0 for number in range(cell_count)]
    return Ground(units, dots, cells, controls, points_at_zero(point_count))


def ground_for_shape(size, outline, ends):
    """A ground of its own for a shape's program: what that makes of the size's numbers is not to reach the size."""
    ground = Ground(size.units, size.dots, list(size.cells), list(size.controls), twins(size.twilight))
    ground.outline = outline
    ground.ends = ends
    if size.plain == 0:
        ground.kept = size.kept.twin()
    return ground
