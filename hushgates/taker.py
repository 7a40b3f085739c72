"""The taker: one label of each wire, and the tables as they come."""

from hushgates.gates import TABLE_BYTES, taken_label
from hushgates.walk import GateWalk


class Taker(GateWalk):
    """An input's label is None until it is given; piece is what has come of a table that isn't whole yet."""

    def __init__(self, circuit, key):
        # The taker knows no d; what it makes of an even gate is the label of 0 as if d were 0.
        GateWalk.__init__(self, circuit, key, [None] * circuit.inputs, 0)
        self.piece = []
        self.is_fed = False

    def keep_label(self, i, label):
        self.labels[i] = label

    def lacks_label(self):
        return any([label is None for label in self.labels])

    def is_finished(self):
        """Whether a feed has ended with all gates done."""
        # A circuit without gates has none left to do from the start, but still waits for a feed.
        return self.is_fed and self.all_done()

    def take_stream(self, stream):
        """Do gates as far as the bytes go; answer how many of them were taken."""
        self.is_fed = True
        taken = 0
        self.do_even_gates()
        while not self.all_done():
            wanted = TABLE_BYTES - len(self.piece)
            part = stream[taken:taken + wanted]
            self.piece = self.piece + part
            taken = taken + len(part)
            if len(part) < wanted:
                return taken
            self.do_odd_gate()
            self.do_even_gates()
        return taken

    def do_odd_gate(self):
        """Do the first gate that isn't done, whose table has come."""
        g = self.gates_done()
        gate = self.circuit.gates[g]
        a = self.labels[gate[1]]
        b = self.labels[gate[2]]
        self.labels.append(taken_label(self.schedule, gate[0], g, a, b, self.piece))
        self.piece = []
