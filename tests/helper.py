"""Calls written out, answers taken apart, and the document's words worked out a second time.

Nothing here uses the package but answers(): the second working-out is over bytes and by
search, so that it shares no table and no shortcut with the program.
"""

import functools

from hushgates.parties import answers

TOP = 18446744073709551615
ODD_FUNCTIONS = (1, 2, 4, 7, 8, 11, 13, 14)
EVEN_FUNCTIONS = (0, 3, 5, 6, 9, 10, 12, 15)


def row(values):
    return [len(values)] + list(values)


def twice(x):
    return [0] + row(x)


def mix(key, x, t):
    return [1] + row(key) + row(x) + row(t)


def table(f, g, key, a, b, d):
    return [2, f, g] + row(key) + row(a) + row(b) + row(d)


def zero(f, g, key, a, b, d):
    return [3, f, g] + row(key) + row(a) + row(b) + row(d)


def one(f, g, key, a, b, t):
    return [4, f, g] + row(key) + row(a) + row(b) + row(t)


def load(s):
    return [5] + row(s)


def shape():
    return [6]


def plain(a, b):
    return [7] + row(a) + row(b)


def begin(key, seed):
    return [8] + row(key) + row(seed)


def tables(most):
    """next, under a name that Python has not taken."""
    return [9, most]


def match(s):
    return [10] + row(s)


def tell(i, of_bit):
    return [11, i, of_bit]


def told(i):
    return [12, i]


def done():
    return [13]


def hint(j):
    return [14, j]


def settle(j, l):
    return [15, j] + row(l)


def opening(key):
    """open, under a name that Python has not taken."""
    return [16] + row(key)


def give(i, l):
    return [17, i] + row(l)


def feed(s):
    return [18] + row(s)


def label(j):
    return [19, j]


def bit(j, of_hint):
    return [20, j, of_hint]


def run(*calls):
    """The answers of the calls, each as (number, bytes, numbers)."""
    handed = [number for call in calls for number in call]
    before = list(handed)
    given = answers(handed)
    if handed != before:
        raise AssertionError("the list handed in was changed")
    if type(given) is not list or any(type(number) is not int for number in given):
        raise AssertionError("not a list of whole numbers")
    replies = []
    at = 0
    while at < len(given):
        size = given[at]
        replies.append(apart(given[at + 1:at + 1 + size], size))
        at += 1 + size
    if len(replies) != len(calls):
        raise AssertionError(f"{len(calls)} calls, {len(replies)} answers")
    return replies


def apart(answer, size):
    if len(answer) != size:
        raise AssertionError("an answer is shorter than it says")
    count = answer[1]
    values = answer[2:2 + count]
    numbers = answer[3 + count:]
    if len(values) != count or answer[2 + count] != len(numbers):
        raise AssertionError(f"counts that don't fit: {answer}")
    if any(not 0 <= byte <= 255 for byte in values):
        raise AssertionError(f"no bytes: {values}")
    return (answer[0], values, numbers)


def ask(*calls):
    """The answer of the last of the calls."""
    return run(*calls)[-1]


def refused(number):
    return (number, [], [])


def sixteen(number):
    return list(number.to_bytes(16, "little"))


def wide(values):
    return int.from_bytes(bytes(values), "little")


def unhex(text):
    return list(bytes.fromhex(text))


def plus(*rows):
    total = [0] * len(rows[0])
    for values in rows:
        total = [p ^ q for p, q in zip(total, values, strict=True)]
    return total


def when(condition, values):
    return values if condition else [0] * len(values)


def times(p, q):
    """The product of two bytes in the field of FIPS 197, section 4.2."""
    product = 0
    for k in range(8):
        if q >> k & 1:
            product ^= p << k
    for k in range(14, 7, -1):
        if product >> k & 1:
            product ^= 0x11B << (k - 8)
    return product


def boxed(byte):
    """The S-box by its definition: the inverse, then the affine map."""
    inverse = 1
    for _ in range(254):
        inverse = times(inverse, byte)
    out = 0
    for k in range(8):
        turned = sum(inverse >> ((k + step) % 8) & 1 for step in (0, 4, 5, 6, 7))
        out |= ((turned + (0x63 >> k)) & 1) << k
    return out


BOX = [boxed(byte) for byte in range(256)]
PRODUCTS = {factor: [times(factor, byte) for byte in range(256)] for factor in (1, 2, 3)}


@functools.lru_cache(maxsize=64)
def aes_keys(key):
    words = [list(key[k:k + 4]) for k in range(0, 16, 4)]
    constant = 1
    for k in range(4, 44):
        word = words[k - 1]
        if k % 4 == 0:
            word = [BOX[byte] for byte in word[1:] + word[:1]]
            word[0] ^= constant
            constant = times(constant, 2)
        words.append(plus(words[k - 4], word))
    return [sum(words[k:k + 4], []) for k in range(0, 44, 4)]


def aes(key, block):
    keys = aes_keys(tuple(key))
    state = plus(block, keys[0])
    for number in range(1, 11):
        state = [BOX[byte] for byte in state]
        state = [state[4 * ((column + line) % 4) + line] for column in range(4) for line in range(4)]
        if number < 10:
            state = [
                PRODUCTS[2][state[4 * c + r]] ^ PRODUCTS[3][state[4 * c + (r + 1) % 4]]
                ^ state[4 * c + (r + 2) % 4] ^ state[4 * c + (r + 3) % 4]
                for c in range(4) for r in range(4)
            ]
        state = plus(state, keys[number])
    return state


def said_twice(x):
    shifted = wide(x) << 1
    return sixteen(shifted ^ (1 << 128) ^ 135 if shifted >> 128 else shifted)


def said_mix(key, x, t):
    y = plus(said_twice(x), t)
    return plus(aes(key, y), y)


def value(f, a, b):
    return f >> (2 * a + b) & 1


def parts(f):
    """x, y, z of an odd function, found by trying all of them."""
    found = [
        (x, y, z) for x in (0, 1) for y in (0, 1) for z in (0, 1)
        if all(value(f, a, b) == z ^ ((a ^ x) & (b ^ y)) for a in (0, 1) for b in (0, 1))
    ]
    if len(found) != 1:
        raise AssertionError(f"{f} isn't odd")
    return found[0]


def tweaks(g):
    return sixteen(2 * g % 2 ** 64), sixteen((2 * g + 1) % 2 ** 64)


def said_table(f, g, key, a, b, d):
    if f in EVEN_FUNCTIONS:
        return [0] * 32
    x, y, _ = parts(f)
    s, t = tweaks(g)
    q = b[0] & 1
    first = plus(said_mix(key, a, s), said_mix(key, plus(a, d), s), when(q != y, d))
    second = plus(said_mix(key, b, t), said_mix(key, plus(b, d), t), a, when(x == 1, d))
    return first + second


def said_zero(f, g, key, a, b, d):
    nothing = [0] * 16
    even = {
        0: nothing, 15: d, 12: a, 3: plus(a, d), 10: b, 5: plus(b, d),
        6: plus(a, b), 9: plus(a, b, d),
    }
    if f in even:
        return even[f]
    x, y, z = parts(f)
    s, t = tweaks(g)
    p, q = a[0] & 1, b[0] & 1
    left = said_mix(key, plus(a, when(p == 1, d)), s)
    right = said_mix(key, plus(b, when(q == 1, d)), t)
    return plus(left, right, when(z ^ ((p ^ x) & (q ^ y)) == 1, d))


def said_one(f, g, key, a, b, t):
    nothing = [0] * 16
    even = {0: nothing, 15: nothing, 12: a, 3: a, 10: b, 5: b, 6: plus(a, b), 9: plus(a, b)}
    if f in even:
        return even[f]
    s, u = tweaks(g)
    made = plus(said_mix(key, a, s), said_mix(key, b, u))
    made = plus(made, when(a[0] & 1 == 1, t[:16]))
    return plus(made, when(b[0] & 1 == 1, plus(t[16:], a)))


def pair(number):
    return [number & 255, number >> 8]


def circuit(makers, takers, gates, outputs):
    """A circuit's bytes."""
    text = [0x48, 0x57, 0x31, 0x00] + pair(makers) + pair(takers) + pair(len(gates)) + pair(len(outputs))
    for f, a, b in gates:
        text += [f] + pair(a) + pair(b)
    for wire in outputs:
        text += pair(wire)
    return text


def said_plain(inputs, gates, outputs):
    bits = list(inputs)
    for f, a, b in gates:
        bits.append(value(f, bits[a], bits[b]))
    return [bits[wire] for wire in outputs]


def garbling(inputs, gates, key, seed):
    """d, the labels of 0 of all wires, and the tables of the odd gates."""
    d = aes(seed, [0] * 16)
    d[0] |= 1
    zeros = [aes(seed, sixteen(i + 1)) for i in range(inputs)]
    stream = []
    for g, (f, a, b) in enumerate(gates):
        if f in ODD_FUNCTIONS:
            stream.append(said_table(f, g, key, zeros[a], zeros[b], d))
        zeros.append(said_zero(f, g, key, zeros[a], zeros[b], d))
    return d, zeros, stream


def taken(labels, gates, key, stream):
    """The labels of all wires up to the first odd gate whose table isn't in the stream."""
    held = list(labels)
    used = 0
    for g, (f, a, b) in enumerate(gates):
        piece = [0] * 32
        if f in ODD_FUNCTIONS:
            piece = stream[used:used + 32]
            used += 32
            if len(piece) < 32:
                break
        held.append(said_one(f, g, key, held[a], held[b], piece))
    return held


def labels_of(d, zeros, bits):
    return [plus(nought, when(of_bit, d)) for nought, of_bit in zip(zeros, bits)]


def random_circuit(chance, most_bits=16, most_gates=32, functions=range(16)):
    """makers, takers, gates, outputs of some circuit."""
    makers = chance.randint(0, most_bits)
    takers = chance.randint(0 if makers else 1, most_bits)
    wires = makers + takers
    gates = []
    for _ in range(chance.randint(0, most_gates)):
        gates.append((chance.choice(functions), chance.randrange(wires), chance.randrange(wires)))
        wires += 1
    outputs = [chance.randrange(wires) for _ in range(chance.randint(1, 16))]
    return makers, takers, tuple(gates), tuple(outputs)


def cut(chance, values, pieces):
    """The values in so many pieces, some of which may be empty."""
    ends = sorted(chance.randint(0, len(values)) for _ in range(pieces - 1))
    return [values[p:q] for p, q in zip([0] + ends, ends + [len(values)])]


def joined(rows):
    return [byte for values in rows for byte in values]


def pseudo(start, count):
    """A row of bytes that is always the same for the same start."""
    return [(start * 167 + k * k * 31 + k * 89 + (start * k >> 2)) % 256 for k in range(count)]
