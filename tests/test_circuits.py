"""load, shape and plain."""

import itertools
import unittest

from helper import (
    ODD_FUNCTIONS, TOP, ask, circuit, load, pair, plain, pseudo, refused, run, said_plain, shape, value,
)

ADDER_GATES = ((6, 0, 1), (6, 3, 2), (8, 0, 1), (8, 3, 2), (14, 5, 6))
ADDER = circuit(2, 1, ADDER_GATES, (4, 7))
SMALLEST = circuit(1, 0, (), (0,))
FULL_GATES = tuple((k % 16, 31 + k, k) for k in range(32))
FULL = circuit(16, 16, FULL_GATES, tuple(range(48, 64)))


def wrong_at(place):
    return (-6, [], [place])


def changed(text, place, values):
    return text[:place] + list(values) + text[place + len(values):]


class LoadTest(unittest.TestCase):
    def test_smallest(self):
        self.assertEqual(len(SMALLEST), 14)
        self.assertEqual(run(load(SMALLEST), shape()), [(0, [], []), (0, [], [1, 0, 0, 1, 0])])
        other = circuit(0, 1, (), (0,))
        self.assertEqual(run(load(other), shape()), [(0, [], []), (0, [], [0, 1, 0, 1, 0])])

    def test_largest(self):
        self.assertEqual(len(FULL), 204)
        self.assertEqual(run(load(FULL), shape()), [(0, [], []), (0, [], [16, 16, 32, 16, 16])])

    def test_bits_gates_and_outputs_at_their_bounds(self):
        for makers, takers, gates, outputs in itertools.product((0, 1, 16), (0, 1, 16), (0, 1, 32), (1, 2, 16)):
            if makers + takers == 0:
                continue
            text = circuit(makers, takers, ((8, 0, 0),) * gates, (0,) * outputs)
            self.assertEqual(run(load(text), shape())[1], (0, [], [makers, takers, gates, outputs, gates]))

    def test_the_sign(self):
        for place in range(4):
            for byte in range(256):
                text = changed(ADDER, place, [byte])
                expected = (0, [], []) if byte == ADDER[place] else wrong_at(place)
                self.assertEqual(ask(load(text)), expected)
                self.assertEqual(ask(load(text[:place + 1])), wrong_at(place + (byte == ADDER[place])))

    def test_counts_beyond_their_bounds(self):
        for place, wrong in (
            (4, (17, 18, 255, 256, 257, 272, 4096, 65535)),
            (6, (17, 18, 255, 256, 257, 272, 4096, 65535)),
            (8, (33, 34, 255, 256, 288, 65535)),
            (10, (0, 17, 18, 255, 256, 257, 65535)),
        ):
            for number in wrong:
                text = changed(FULL, place, pair(number))
                self.assertEqual(ask(load(text)), wrong_at(place), (place, number))
                # The number is looked at as soon as it is there, and not before.
                self.assertEqual(ask(load(text[:place + 2])), wrong_at(place), (place, number))
                self.assertEqual(ask(load(text[:place + 1])), wrong_at(place + 1), (place, number))

    def test_no_bits_at_all(self):
        self.assertEqual(ask(load(changed(SMALLEST, 4, [0, 0, 0, 0]))), wrong_at(6))
        self.assertEqual(ask(load(changed(FULL, 4, [0, 0, 0, 0]))), wrong_at(6))

    def test_functions(self):
        for k in (0, 1, 4):
            place = 12 + 5 * k
            for f in range(256):
                expected = (0, [], []) if f < 16 else wrong_at(place)
                self.assertEqual(ask(load(changed(ADDER, place, [f]))), expected)

    def test_wires_of_gates(self):
        for text, inputs, gates in ((ADDER, 3, 5), (FULL, 32, 32)):
            for k in range(gates):
                for place in (13 + 5 * k, 15 + 5 * k):
                    own = inputs + k
                    for wire in (0, own - 1):
                        self.assertEqual(ask(load(changed(text, place, pair(wire)))), (0, [], []))
                    for wire in (own, own + 1, 255, 256, 65535):
                        self.assertEqual(ask(load(changed(text, place, pair(wire)))), wrong_at(place))

    def test_wires_of_outputs(self):
        for text, wires, start, outputs in ((SMALLEST, 1, 12, 1), (ADDER, 8, 37, 2), (FULL, 64, 172, 16)):
            for k in range(outputs):
                place = start + 2 * k
                for wire in range(wires):
                    self.assertEqual(ask(load(changed(text, place, pair(wire)))), (0, [], []))
                for wire in (wires, wires + 1, 256, 65535):
                    self.assertEqual(ask(load(changed(text, place, pair(wire)))), wrong_at(place))

    def test_the_first_wrong_place_goes(self):
        text = changed(changed(ADDER, 12, [16]), 4, [17, 0])
        self.assertEqual(ask(load(text)), wrong_at(4))
        text = changed(changed(ADDER, 12, [16]), 13, [200, 0])
        self.assertEqual(ask(load(text)), wrong_at(12))
        self.assertEqual(ask(load(changed(ADDER, 13, [200, 0, 200, 0]))), wrong_at(13))

    def test_ends_too_early(self):
        for text in (SMALLEST, ADDER, FULL):
            for size in range(len(text)):
                self.assertEqual(ask(load(text[:size])), wrong_at(size))

    def test_more_behind(self):
        for text in (SMALLEST, ADDER, FULL):
            for more in ([0], [72], [255], [0, 0], text[:20], [0] * (256 - len(text))):
                self.assertEqual(ask(load(text + more)), wrong_at(len(text)))

    def test_length(self):
        for text in (SMALLEST, FULL):
            self.assertEqual(ask(load(text + [0] * (256 - len(text)))), wrong_at(len(text)))
            self.assertEqual(ask(load(text + [0] * (257 - len(text)))), refused(-2))
        self.assertEqual(ask(load([0] * 256)), wrong_at(0))
        self.assertEqual(ask(load([0] * 257)), refused(-2))
        self.assertEqual(ask(load([1] * 15998)), refused(-2))

    def test_a_refused_load_leaves_what_was(self):
        for wrong in ([], ADDER[:-1], ADDER + [0], changed(FULL, 4, [17]), FULL + [0] * 53):
            told = run(load(ADDER), load(wrong), shape(), plain([1, 1], [0]))
            self.assertIn(told[1][0], (-2, -6))
            self.assertEqual(told[2:], [(0, [], [2, 1, 5, 2, 3]), (0, [], [0, 1])])
            self.assertEqual(run(load(wrong), shape())[1], refused(-8))

    def test_the_last_load_goes(self):
        told = run(load(ADDER), load(SMALLEST), shape(), load(FULL), shape())
        self.assertEqual(told[2][2], [1, 0, 0, 1, 0])
        self.assertEqual(told[4][2], [16, 16, 32, 16, 16])


class ShapeTest(unittest.TestCase):
    def test_odd_gates(self):
        for f in range(16):
            text = circuit(3, 2, ((f, 0, 4), (6, 1, 2), (f, 5, 6)), (7,))
            odd = 2 if f in ODD_FUNCTIONS else 0
            self.assertEqual(ask(load(text), shape()), (0, [], [3, 2, 3, 1, odd]))

    def test_no_circuit(self):
        self.assertEqual(ask(shape()), refused(-8))


class PlainTest(unittest.TestCase):
    def test_adder(self):
        for a, b, c in itertools.product((0, 1), repeat=3):
            total = a + b + c
            self.assertEqual(ask(load(ADDER), plain([a, b], [c])), (0, [], [total & 1, total >> 1]))

    def test_every_function(self):
        for f in range(16):
            for a, b in itertools.product((0, 1), repeat=2):
                text = circuit(1, 1, ((f, 0, 1),), (2, 0, 1, 2))
                v = value(f, a, b)
                self.assertEqual(ask(load(text), plain([a], [b])), (0, [], [v, a, b, v]))

    def test_one_side_brings_nothing(self):
        self.assertEqual(ask(load(SMALLEST), plain([1], [])), (0, [], [1]))
        self.assertEqual(ask(load(circuit(0, 2, ((8, 0, 1),), (2, 1))), plain([], [0, 1])), (0, [], [0, 1]))

    def test_the_largest(self):
        for start in range(20):
            bits = [byte >> 3 & 1 for byte in pseudo(start, 32)]
            expected = said_plain(bits, FULL_GATES, range(48, 64))
            self.assertEqual(ask(load(FULL), plain(bits[:16], bits[16:])), (0, [], expected))

    def test_wrong_lengths(self):
        for a in range(4):
            for b in range(4):
                if (a, b) != (2, 1):
                    self.assertEqual(ask(load(ADDER), plain([0] * a, [0] * b)), refused(-1))
        self.assertEqual(ask(load(ADDER), plain([0] * 7000, [0] * 7000)), refused(-1))

    def test_numbers_above_one(self):
        for number in (2, 3, 255, 256, 2 ** 32, 2 ** 63, TOP):
            self.assertEqual(ask(load(ADDER), plain([number, 0], [1])), refused(-1))
            self.assertEqual(ask(load(ADDER), plain([0, number], [1])), refused(-1))
            self.assertEqual(ask(load(ADDER), plain([0, 1], [number])), refused(-1))

    def test_no_circuit(self):
        self.assertEqual(ask(plain([], [])), refused(-8))
        self.assertEqual(ask(plain([2] * 99, [TOP])), refused(-8))

    def test_a_refusal_changes_nothing(self):
        told = run(load(ADDER), plain([2, 0], [0]), plain([1], []), shape(), plain([1, 1], [1]))
        self.assertEqual(told[1:], [refused(-1), refused(-1), (0, [], [2, 1, 5, 2, 3]), (0, [], [1, 1])])


if __name__ == "__main__":
    unittest.main()
