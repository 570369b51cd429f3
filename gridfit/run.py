"""One program under way: its stack, its state and where it stands."""

from gridfit.faults import Fault
from gridfit.reckon import cut, without_sign
from gridfit.rounding import GRID, rounded

FONT = 0
SIZE = 1
SHAPE = 2

STACK_LIMIT = 128

X_AXIS = (16384, 0)
Y_AXIS = (0, 16384)


class Run:
    """kind is FONT, SIZE or SHAPE; font is the code in which the functions lie, functions tells their places."""

    def __init__(self, kind, ground, code, font, functions):
        self.kind = kind
        self.ground = ground
        self.font = font
        self.functions = functions
        self.code = code
        self.whose = 1 if kind == FONT else 0
        self.place = 0
        self.after = 0
        self.byte = 0
        self.done = 0
        self.frames = []
        self.stack = []
        self.projection = X_AXIS
        self.freedom = X_AXIS
        self.old_projection = X_AXIS
        self.references = [0, 0, 0]
        self.pointers = [1, 1, 1]
        self.loop = 1
        self.rounding = GRID
        self.rounding_byte = 0

    def take(self):
        if len(self.stack) == 0:
            raise Fault(1)
        return self.stack.pop()

    def take_many(self, count):
        """So many numbers, the topmost first."""
        if count > len(self.stack):
            raise Fault(1)
        taken = []
        while len(taken) < count:
            taken.append(self.stack.pop())
        return taken

    def take_loop(self):
        """The numbers of the loop points, the topmost first."""
        numbers = self.take_many(self.loop)
        self.loop = 1
        return numbers

    def give(self, number):
        if len(self.stack) == STACK_LIMIT:
            raise Fault(2)
        self.stack.append(cut(number))

    def round_number(self, number):
        return rounded(self.rounding, self.rounding_byte, number)

    def zone(self, number):
        if number == 0:
            return self.ground.twilight
        return self.ground.outline

    def point_of_zone(self, zone_number, number):
        zone = self.zone(zone_number)
        return zone[within(number, len(zone))]

    def point(self, pointer, number):
        """The point of zone z0, z1 or z2, as pointer says."""
        return self.point_of_zone(self.pointers[pointer], number)

    def reference(self, which, pointer):
        return self.point(pointer, self.references[which])


def within(number, count):
    """The number, read without sign, which has to be below count."""
    if without_sign(number) >= count:
        raise Fault(3)
    return without_sign(number)
