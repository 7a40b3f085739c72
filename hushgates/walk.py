"""The way through a circuit's gates in their order, which maker and taker both go."""

from hushgates.cipher import schedule_of
from hushgates.gates import even_label, is_odd

LONGEST_PIECE = 2048


class GateWalk:
    """labels holds one label of each input, and behind them one of each gate that is done."""

    def __init__(self, circuit, key, labels, delta):
        self.circuit = circuit
        self.schedule = schedule_of(key)
        self.labels = labels
        self.delta = delta

    def gates_done(self):
        return len(self.labels) - self.circuit.inputs

    def all_done(self):
        return self.gates_done() == len(self.circuit.gates)

    def do_even_gates(self):
        """Do the gates ahead of the first odd one that isn't done."""
        for f, a, b in self.circuit.gates[self.gates_done():]:
            if is_odd(f):
                return
            self.labels.append(even_label(f, self.labels[a], self.labels[b], self.delta))

    def has_input(self, i):
        return i < self.circuit.inputs

    def has_output(self, j):
        return j < len(self.circuit.outputs)

    def output_label(self, j):
        """The label that is held of output j's wire."""
        return self.labels[self.circuit.outputs[j]]
