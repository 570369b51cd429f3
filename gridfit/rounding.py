"""The eight ways of rounding."""

from gridfit.reckon import cut

HALF = 0
GRID = 1
DOUBLE = 2
DOWN = 3
UP = 4
OFF = 5
BY_BYTE = 6
BY_BYTE_ACROSS = 7


def period_of(how, byte):
    """The document's G: the period in 256ths of a 64th."""
    whole = 16384 if how == BY_BYTE else 11585
    choice = byte // 64 % 4
    if choice == 0:
        return whole // 2
    if choice == 2:
        return 2 * whole
    return whole


def threshold_of(period, byte):
    choice = byte % 16
    if choice == 0:
        return (period - 1) // 256
    return period * (choice - 4) // 8 // 256


def size_by_byte(how, byte, size):
    period = period_of(how, byte)
    step = period // 256
    phase = period * (byte // 16 % 4) // 4 // 256
    threshold = threshold_of(period, byte)
    found = step * ((size - phase + threshold) // step) + phase
    return phase if found < 0 else found


def rounded_size(how, byte, size):
    if how == HALF:
        return 64 * (size // 64) + 32
    if how == GRID:
        return 64 * ((size + 32) // 64)
    if how == DOUBLE:
        return 32 * ((size + 16) // 32)
    if how == DOWN:
        return 64 * (size // 64)
    if how == UP:
        return 64 * ((size + 63) // 64)
    if how == OFF:
        return size
    return size_by_byte(how, byte, size)


def rounded(how, byte, number):
    size = rounded_size(how, byte, abs(number))
    return cut(-size if number < 0 else size)
