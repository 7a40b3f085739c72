"""The maker: a garbling of a circuit, done gate by gate."""

from hushgates.cipher import encrypt, schedule_of
from hushgates.gates import TABLE_BYTES, even_label, garbled_gate, is_odd


class Comparison:
    """How many tables were the same, and whether another one ended it."""

    def __init__(self, same, differs):
        self.same = same
        self.differs = differs


class Maker:
    """delta is d; zeros holds the labels of 0 of the inputs and of the gates that are done."""

    def __init__(self, circuit, key, seed):
        seed_schedule = schedule_of(seed)
        self.circuit = circuit
        self.schedule = schedule_of(key)
        self.delta = encrypt(seed_schedule, 0) | 1
        self.zeros = [encrypt(seed_schedule, i + 1) for i in range(circuit.inputs)]

    def gates_done(self):
        return len(self.zeros) - self.circuit.inputs

    def all_done(self):
        return self.gates_done() == len(self.circuit.gates)

    def do_even_gates(self):
        """Do the gates ahead of the first odd one that isn't done."""
        for f, a, b in self.circuit.gates[self.gates_done():]:
            if is_odd(f):
                return
            self.zeros.append(even_label(f, self.zeros[a], self.zeros[b], self.delta))

    def garbled_next(self):
        """The first gate that isn't done, garbled; it isn't done by that."""
        g = self.gates_done()
        gate = self.circuit.gates[g]
        a = self.zeros[gate[1]]
        b = self.zeros[gate[2]]
        return garbled_gate(self.schedule, gate[0], g, a, b, self.delta)

    def tell_tables(self, most):
        """Do gates until most tables are told or none is left; answer the tables."""
        tables = []
        self.do_even_gates()
        while len(tables) < most and not self.all_done():
            garbled = self.garbled_next()
            tables.append(garbled.table)
            self.zeros.append(garbled.zero)
            self.do_even_gates()
        return tables

    def match_tables(self, stream):
        """Do gates as long as their tables are those of the stream."""
        same = 0
        self.do_even_gates()
        while same * TABLE_BYTES < len(stream) and not self.all_done():
            start = same * TABLE_BYTES
            garbled = self.garbled_next()
            if garbled.table != stream[start:start + TABLE_BYTES]:
                return Comparison(same, True)
            self.zeros.append(garbled.zero)
            same = same + 1
            self.do_even_gates()
        return Comparison(same, False)
