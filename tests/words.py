"""All calls worked out a second time, each as the document's words tell it.

Where the program goes on from what it has, this reckons from the beginning: a maker has its
whole garbling at once and counts how far it is, a taker goes through all its bytes anew.
"""

from helper import (
    ODD_FUNCTIONS, garbling, joined, plus, refused, said_mix, said_one, said_plain, said_table, said_twice, said_zero,
    taken, when,
)

TWICE, MIX, TABLE, ZERO, ONE, LOAD, SHAPE, PLAIN, BEGIN, NEXT, MATCH = range(11)
TELL, TOLD, DONE, HINT, SETTLE, OPEN, GIVE, FEED, LABEL, BIT = range(11, 21)

OF_CIRCUIT = (SHAPE, PLAIN, BEGIN, OPEN)
OF_MAKER = (NEXT, MATCH, TELL, TOLD, DONE, HINT, SETTLE)
OF_TAKER = (GIVE, FEED, LABEL, BIT)
# How many of each call's rows must have sixteen bytes; they're its first ones.
SIXTEENS = {TWICE: 1, MIX: 3, TABLE: 4, ZERO: 4, ONE: 3, BEGIN: 2, SETTLE: 1, OPEN: 1, GIVE: 1}


def written(number, numbers, rows):
    """A call as it is handed in."""
    call = [number, *numbers]
    for values in rows:
        call += [len(values), *values]
    return call


class Circuit:
    def __init__(self, makers, takers, gates, outputs):
        self.makers = makers
        self.takers = takers
        self.inputs = makers + takers
        self.gates = gates
        self.outputs = outputs
        self.odd = [g for g, gate in enumerate(gates) if gate[0] in ODD_FUNCTIONS]

    def done_with(self, tables):
        """How many gates are done when so many tables are through."""
        return len(self.gates) if tables == len(self.odd) else self.odd[tables]


class Maker:
    def __init__(self, circuit, key, seed):
        self.circuit = circuit
        self.d, self.zeros, self.tables = garbling(circuit.inputs, circuit.gates, key, seed)
        self.through = 0
        self.done = 0
        self.said = {}

    def all_done(self):
        return self.done == len(self.circuit.gates)


class Taker:
    def __init__(self, circuit, key):
        self.circuit = circuit
        self.key = key
        self.given = {}
        self.came = []
        self.fed = False

    def wanting(self):
        return 32 * len(self.circuit.odd) - len(self.came)

    def output(self, j):
        labels = [self.given[i] for i in range(self.circuit.inputs)]
        return taken(labels, self.circuit.gates, self.key, self.came)[self.circuit.outputs[j]]


class Words:
    """texts: the circuits that there are, by their bytes; any other text is the beginning of one."""

    def __init__(self, texts):
        self.texts = texts
        self.circuit = None
        self.maker = None
        self.taker = None

    def answer(self, number, numbers, rows):
        missing = {
            **{k: self.circuit is None for k in OF_CIRCUIT},
            **{k: self.maker is None for k in OF_MAKER},
            **{k: self.taker is None for k in OF_TAKER},
        }
        if missing.get(number, False):
            return refused(-8)
        if any(len(values) != 16 for values in rows[:SIXTEENS.get(number, 0)]):
            return refused(-1)
        names = (
            "twice mix table zero one load shape plain begin next match tell told done hint settle open give feed "
            "label bit"
        ).split()
        return getattr(self, "do_" + names[number])(*numbers, *rows)

    def do_twice(self, x):
        return (0, said_twice(x), [])

    def do_mix(self, key, x, t):
        return (0, said_mix(key, x, t), [])

    def do_table(self, f, g, key, a, b, d):
        return refused(-1) if f > 15 else (0, said_table(f, g, key, a, b, d), [])

    def do_zero(self, f, g, key, a, b, d):
        return refused(-1) if f > 15 else (0, said_zero(f, g, key, a, b, d), [])

    def do_one(self, f, g, key, a, b, t):
        return refused(-1) if f > 15 or len(t) != 32 else (0, said_one(f, g, key, a, b, t), [])

    def do_load(self, s):
        if len(s) > 256:
            return refused(-2)
        if tuple(s) not in self.texts:
            return (-6, [], [len(s)])
        self.circuit = Circuit(*self.texts[tuple(s)])
        return (0, [], [])

    def do_shape(self):
        c = self.circuit
        return (0, [], [c.makers, c.takers, len(c.gates), len(c.outputs), len(c.odd)])

    def do_plain(self, a, b):
        c = self.circuit
        if (len(a), len(b)) != (c.makers, c.takers) or any(value > 1 for value in a + b):
            return refused(-1)
        return (0, [], said_plain(a + b, c.gates, c.outputs))

    def do_begin(self, key, seed):
        self.maker = Maker(self.circuit, key, seed)
        return (0, [], [])

    def do_next(self, most):
        m = self.maker
        end = min(len(m.tables), m.through + most)
        stream = m.tables[m.through:end]
        m.through = end
        m.done = m.circuit.done_with(end)
        return (int(m.all_done()), joined(stream), [m.done, len(stream)])

    def do_match(self, s):
        if len(s) > 2048:
            return refused(-2)
        if len(s) % 32:
            return refused(-1)
        m = self.maker
        same = 0
        another = False
        for at in range(0, len(s), 32):
            if m.through == len(m.tables):
                break
            if s[at:at + 32] != m.tables[m.through]:
                another = True
                break
            m.through += 1
            same += 1
        m.done = m.circuit.done_with(m.through)
        return (2 if another else int(m.all_done()), [], [m.done, same])

    def do_tell(self, i, of_bit):
        m = self.maker
        if i >= m.circuit.inputs or of_bit > 1:
            return refused(-3)
        if m.said.setdefault(i, of_bit) != of_bit:
            return refused(-4)
        return (0, plus(m.zeros[i], when(of_bit, m.d)), [])

    def do_told(self, i):
        m = self.maker
        if i >= m.circuit.inputs:
            return refused(-3)
        return (m.said[i] + 1 if i in m.said else 0, [], [])

    def do_done(self):
        return (self.maker.done, [], [])

    def do_hint(self, j):
        m = self.maker
        if j >= len(m.circuit.outputs):
            return refused(-3)
        if not m.all_done():
            return refused(-4)
        return (m.zeros[m.circuit.outputs[j]][0] % 2, [], [])

    def do_settle(self, j, l):
        m = self.maker
        if j >= len(m.circuit.outputs):
            return refused(-3)
        if not m.all_done():
            return refused(-4)
        nought = m.zeros[m.circuit.outputs[j]]
        both = [nought, plus(nought, m.d)]
        return (both.index(l), [], []) if l in both else refused(-5)

    def do_open(self, key):
        self.taker = Taker(self.circuit, key)
        return (0, [], [])

    def do_give(self, i, l):
        t = self.taker
        if i >= t.circuit.inputs:
            return refused(-3)
        if t.fed:
            return refused(-4)
        t.given[i] = l
        return (0, [], [])

    def do_feed(self, s):
        t = self.taker
        if len(s) > 2048:
            return refused(-2)
        if len(t.given) < t.circuit.inputs:
            return refused(-4)
        t.fed = True
        part = s[:t.wanting()]
        t.came = t.came + part
        return (int(t.wanting() == 0), [], [len(part)])

    def do_label(self, j):
        t = self.taker
        if j >= len(t.circuit.outputs):
            return refused(-3)
        if not t.fed or t.wanting() > 0:
            return refused(-4)
        return (0, t.output(j), [])

    def do_bit(self, j, of_hint):
        t = self.taker
        if j >= len(t.circuit.outputs) or of_hint > 1:
            return refused(-3)
        if not t.fed or t.wanting() > 0:
            return refused(-4)
        return (t.output(j)[0] % 2 ^ of_hint, [], [])
