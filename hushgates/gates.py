"""What maker and taker make of one gate."""

from hushgates.cipher import mix
from hushgates.wide import number_of, row_of

MOST_FUNCTION = 15
TABLE_BYTES = 32
TWEAKS = 18446744073709551616

# Of each even function: whether a, b and d are in its label of 0.
EVEN = {
    0: (0, 0, 0),
    15: (0, 0, 1),
    12: (1, 0, 0),
    3: (1, 0, 1),
    10: (0, 1, 0),
    5: (0, 1, 1),
    6: (1, 1, 0),
    9: (1, 1, 1),
}

# Of each odd function: its x, y and z.
ODD = {
    1: (1, 1, 0),
    2: (1, 0, 0),
    4: (0, 1, 0),
    8: (0, 0, 0),
    14: (1, 1, 1),
    13: (1, 0, 1),
    11: (0, 1, 1),
    7: (0, 0, 1),
}


class GarbledGate:
    """A gate's table, as the 32 bytes that are told, and its label of 0."""

    def __init__(self, table, zero):
        self.table = table
        self.zero = zero


def gate_value(f, a, b):
    """The function's value of the bits a and b."""
    return (f >> (2 * a + b)) & 1


def is_odd(f):
    return f in ODD


def colour(label):
    return label & 1


def garbled_gate(schedule, f, g, a, b, d):
    """The g-th gate garbled, a and b being the labels of 0."""
    if is_odd(f):
        return garbled_odd(schedule, f, g, a, b, d)
    return GarbledGate(row_of(0) + row_of(0), even_label(f, a, b, d))


def even_label(f, a, b, d):
    """The label of 0 of an even gate; with 0 for d, what the taker makes of labels a and b."""
    taken = EVEN[f]
    return (taken[0] * a) ^ (taken[1] * b) ^ (taken[2] * d)


def garbled_odd(schedule, f, g, a, b, d):
    """The g-th gate, an odd one, garbled."""
    x = ODD[f][0]
    y = ODD[f][1]
    z = ODD[f][2]
    p = colour(a)
    q = colour(b)
    mixes_a = both_mixes(schedule, a, d, tweak_a(g))
    mixes_b = both_mixes(schedule, b, d, tweak_b(g))
    first = mixes_a[0] ^ mixes_a[1] ^ ((q ^ y) * d)
    second = mixes_b[0] ^ mixes_b[1] ^ a ^ (x * d)
    hidden = z ^ ((p ^ x) & (q ^ y))
    zero = mixes_a[p] ^ mixes_b[q] ^ (hidden * d)
    return GarbledGate(row_of(first) + row_of(second), zero)


def both_mixes(schedule, label, d, tweak):
    """mix of a wire's label of 0 and mix of its label of 1."""
    return [mix(schedule, label, tweak), mix(schedule, label ^ d, tweak)]


def tweak_a(g):
    return 2 * g % TWEAKS


def tweak_b(g):
    return (2 * g + 1) % TWEAKS


def taken_label(schedule, f, g, a, b, table):
    """What the taker makes of the labels a and b and the table's 32 bytes."""
    if not is_odd(f):
        return even_label(f, a, b, 0)
    label = mix(schedule, a, tweak_a(g)) ^ mix(schedule, b, tweak_b(g))
    if colour(a) == 1:
        label = label ^ number_of(table[:16])
    if colour(b) == 1:
        label = label ^ number_of(table[16:]) ^ a
    return label
