"""The maker: a garbling of a circuit, done gate by gate."""

from hushgates.cipher import encrypt, schedule_of
from hushgates.gates import TABLE_BYTES, garbled_gate
from hushgates.walk import GateWalk

# What has been told of an input.
NEITHER_TOLD = 0
ZERO_TOLD = 1
ONE_TOLD = 2


class Comparison:
    """How many tables were the same, and whether another one ended it."""

    def __init__(self, same, differs):
        self.same = same
        self.differs = differs


class Maker(GateWalk):
    """labels are those of 0, delta is d; inputs_told says what has been told of each input."""

    def __init__(self, circuit, key, seed):
        seed_schedule = schedule_of(seed)
        delta = encrypt(seed_schedule, 0) | 1
        zeros = [encrypt(seed_schedule, i + 1) for i in range(circuit.inputs)]
        GateWalk.__init__(self, circuit, key, zeros, delta)
        self.inputs_told = [NEITHER_TOLD] * circuit.inputs

    def garbled_next(self):
        """The first gate that isn't done, garbled; it isn't done by that."""
        g = self.gates_done()
        gate = self.circuit.gates[g]
        a = self.labels[gate[1]]
        b = self.labels[gate[2]]
        return garbled_gate(self.schedule, gate[0], g, a, b, self.delta)

    def tell_tables(self, most):
        """Do gates until most tables are told or none is left; answer the tables."""
        tables = []
        self.do_even_gates()
        while len(tables) < most and not self.all_done():
            garbled = self.garbled_next()
            tables.append(garbled.table)
            self.labels.append(garbled.zero)
            self.do_even_gates()
        return tables

    def match_tables(self, stream):
        """Do gates as long as their tables are those of the stream."""
        same = 0
        self.do_even_gates()
        while same * TABLE_BYTES < len(stream) and not self.all_done():
            start = same * TABLE_BYTES
            garbled = self.garbled_next()
            if garbled.table != stream[start:start + TABLE_BYTES]:
                return Comparison(same, True)
            self.labels.append(garbled.zero)
            same = same + 1
            self.do_even_gates()
        return Comparison(same, False)

    def other_is_told(self, i, bit):
        """Whether the label of the bit's opposite has been told of input i."""
        other = ZERO_TOLD if bit == 1 else ONE_TOLD
        return self.inputs_told[i] == other

    def tell_label(self, i, bit):
        """The label of this bit of input i, which has been told then."""
        self.inputs_told[i] = ONE_TOLD if bit == 1 else ZERO_TOLD
        return self.labels[i] ^ (bit * self.delta)
