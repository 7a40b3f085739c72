"""Numbers of 128 bits: the sixteen bytes that tell them, and twice."""

OVER = 0x100000000000000000000000000000000
FALLEN = 135


def number_of(row):
    """The number that a row of bytes tells, the lowest first."""
    number = 0
    for byte in reversed(row):
        number = number * 256 + byte
    return number


def row_of(number):
    """The sixteen bytes that tell a number of 128 bits, the lowest first."""
    return [(number >> shift) & 255 for shift in range(0, 128, 8)]


def twice(x):
    """x shifted by one bit; a bit that falls out comes back as 135."""
    doubled = 2 * x
    if doubled < OVER:
        return doubled
    return (doubled - OVER) ^ FALLEN
