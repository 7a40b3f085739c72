"""Circuits: read from their bytes, and what they make of bits that are shown."""

from hushgates.gates import MOST_FUNCTION, gate_value, is_odd
from hushgates.wide import number_of

SIGN = (0x48, 0x57, 0x31, 0x00)
MOST_BITS = 16
MOST_GATES = 32
MOST_OUTPUTS = 16


class GoesWrong(Exception):
    """No circuit goes on at this place with what has been read."""

    def __init__(self, place):
        self.place = place


class Circuit:
    """Gates are tuples: the function and the two wires. Outputs are wires."""

    def __init__(self, maker_bits, taker_bits, gates, outputs):
        self.maker_bits = maker_bits
        self.taker_bits = taker_bits
        self.inputs = maker_bits + taker_bits
        self.gates = gates
        self.outputs = outputs

    def shape(self):
        """How many bits the maker brings, the taker brings, gates, outputs, odd gates."""
        odd = [gate for gate in self.gates if is_odd(gate[0])]
        return [self.maker_bits, self.taker_bits, len(self.gates), len(self.outputs), len(odd)]

    def output_bits(self, bits):
        """The outputs' bits, of the maker's bits and the taker's behind them."""
        values = list(bits)
        for f, a, b in self.gates:
            values.append(gate_value(f, values[a], values[b]))
        return [values[wire] for wire in self.outputs]


class CircuitText:
    """A circuit's bytes, and how far they are read."""

    def __init__(self, row):
        self.row = row
        self.at = 0

    def take(self, width, least, most):
        """The next number, of so many bytes."""
        start = self.at
        # A number that isn't whole is not looked at, so the end comes first.
        if start + width > len(self.row):
            raise GoesWrong(len(self.row))
        number = number_of(self.row[start:start + width])
        if number < least or number > most:
            raise GoesWrong(start)
        self.at = start + width
        return number

    def finish(self):
        if self.at < len(self.row):
            raise GoesWrong(self.at)


def read_circuit(row):
    """The circuit that the bytes tell; raises GoesWrong where they tell none."""
    text = CircuitText(row)
    for sign in SIGN:
        text.take(1, sign, sign)
    maker_bits = text.take(2, 0, MOST_BITS)
    taker_bits = text.take(2, 1 if maker_bits == 0 else 0, MOST_BITS)
    gate_count = text.take(2, 0, MOST_GATES)
    output_count = text.take(2, 1, MOST_OUTPUTS)
    wires = maker_bits + taker_bits
    gates = []
    for k in range(gate_count):
        gates.append(read_gate(text, wires + k))
    wires = wires + gate_count
    outputs = [text.take(2, 0, wires - 1) for k in range(output_count)]
    text.finish()
    return Circuit(maker_bits, taker_bits, gates, outputs)


def read_gate(text, wire):
    """The gate whose own wire this is."""
    f = text.take(1, 0, MOST_FUNCTION)
    a = text.take(2, 0, wire - 1)
    b = text.take(2, 0, wire - 1)
    return (f, a, b)
