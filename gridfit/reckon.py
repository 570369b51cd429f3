"""Numbers of 32 bits, nearest whole numbers, and vectors in 16,384ths."""

ONE = 16384


def cut(number):
    return (number + 2147483648) % 4294967296 - 2147483648


def cut_to_16(number):
    return (number + 32768) % 65536 - 32768


def without_sign(number):
    return number % 4294967296


def near(top, bottom):
    """The whole number nearest to top / bottom, of two equally near the greater."""
    # Half of one is added before going down; // goes down for a bottom below 0 too.
    return (2 * top + bottom) // (2 * bottom)


def scaled(value, dots, units):
    return cut(near(64 * value * dots, units))


def root_down(square):
    """The greatest whole number whose square is not above this one, which is below 2^32."""
    found = 0
    step = 32768
    while step > 0:
        if (found + step) * (found + step) <= square:
            found += step
        step = step // 2
    return found


def unit_part(part, squares):
    # The root itself is no whole number; so twice the quotient is sought, squared, and then halved to the nearest.
    twice = root_down((2 * ONE * part) * (2 * ONE * part) // squares)
    size = (twice + 1) // 2
    return -size if part < 0 else size


def unit(x, y):
    squares = x * x + y * y
    if squares == 0:
        return (ONE, 0)
    return (unit_part(x, squares), unit_part(y, squares))


def along(vector, x, y):
    return cut(near(x * vector[0] + y * vector[1], ONE))


def way(freedom, projection, distance):
    """The pair by which a place changes on the freedom vector for this distance on the projection vector."""
    shared = freedom[0] * projection[0] + freedom[1] * projection[1]
    if abs(shared) < 16777216:
        # Nearly at right angles the way would be endless; the document takes the vectors for one there.
        shared = 268435456
    return (cut(near(ONE * distance * freedom[0], shared)), cut(near(ONE * distance * freedom[1], shared)))


def part_along(vector, distance):
    """The pair that lies this far on the vector itself."""
    return (cut(near(distance * vector[0], ONE)), cut(near(distance * vector[1], ONE)))
