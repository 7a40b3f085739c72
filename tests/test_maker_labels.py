"""tell, told, done, hint and settle."""

import itertools
import random
import unittest

from helper import (
    TOP, ask, begin, bit, circuit, done, feed, garbling, give, hint, joined, label, labels_of, load, match, opening,
    plain, plus, pseudo, random_circuit, refused, run, settle, shape, sixteen, tables, tell, told, wide,
)

KEY = pseudo(41, 16)
SEED = pseudo(42, 16)
GATES = ((6, 0, 1), (8, 0, 3), (9, 4, 2), (12, 5, 5), (7, 4, 6), (14, 7, 1), (3, 8, 0), (15, 0, 0))
# Inputs of both, gates of every kind, and one wire three times.
OUTPUTS = (8, 0, 2, 10, 8, 4, 9, 8)
TEXT = circuit(2, 1, GATES, OUTPUTS)
D, ZEROS, TABLES = garbling(3, GATES, KEY, SEED)
ONES = [plus(nought, D) for nought in ZEROS]
STREAM = joined(TABLES)
DONE = [1, 4, 5, 8]
START = (load(TEXT), begin(KEY, SEED))
EVEN = circuit(1, 1, ((6, 0, 1), (9, 0, 2), (15, 3, 3)), (4, 2))
NO_GATES = circuit(1, 2, (), (2, 0, 2))
FAR = (2 ** 16, 2 ** 32, 2 ** 63, TOP - 1, TOP)


def after(*calls):
    """The answers of these calls on a new maker."""
    return run(*START, *calls)[2:]


def told_label(values):
    return (0, values, [])


def number(value):
    return (value, [], [])


def spoiled(values, k):
    """Sixteen bytes with another bit k."""
    return sixteen(wide(values) ^ 1 << k)


class TellTest(unittest.TestCase):
    def test_every_input(self):
        for makers, takers in ((1, 0), (0, 1), (16, 0), (0, 16), (2, 3), (16, 16)):
            inputs = makers + takers
            gates = ((8, 0, inputs - 1),)
            d, zeros, _ = garbling(inputs, gates, KEY, SEED)
            text = circuit(makers, takers, gates, (0,))
            for bits in ([0] * inputs, [1] * inputs, [k % 2 for k in range(inputs)]):
                asked = [call for i in range(inputs) for call in (told(i), tell(i, bits[i]), told(i))]
                got = run(load(text), begin(KEY, SEED), *asked)[2:]
                for i, expected in enumerate(labels_of(d, zeros, bits)):
                    self.assertEqual(got[3 * i:3 * i + 3], [number(0), told_label(expected), number(1 + bits[i])])

    def test_the_labels_differ_by_d(self):
        for i in range(3):
            noughts = ask(*START, tell(i, 0))[1]
            ones = ask(*START, tell(i, 1))[1]
            self.assertEqual(plus(noughts, ones), D)
            self.assertEqual(noughts[0] & 1, 1 - (ones[0] & 1))

    def test_as_often_as_one_likes(self):
        for of_bit, expected in ((0, ZEROS[1]), (1, ONES[1])):
            got = after(*[tell(1, of_bit)] * 5, tables(TOP), *[tell(1, of_bit)] * 5)
            self.assertEqual(got[:5] + got[6:], [told_label(expected)] * 10)

    def test_the_other_is_refused(self):
        for i, of_bit in itertools.product(range(3), (0, 1)):
            expected = told_label((ZEROS, ONES)[of_bit][i])
            got = after(tell(i, of_bit), tell(i, 1 - of_bit), tell(i, of_bit), tell(i, 1 - of_bit), told(i))
            self.assertEqual(got, [expected, refused(-4), expected, refused(-4), number(1 + of_bit)])

    def test_the_other_is_refused_after_gates(self):
        for step in (tables(0), tables(1), tables(TOP), match(STREAM[:32]), match(STREAM), match([0] * 32)):
            for of_bit in (0, 1):
                got = after(tell(0, of_bit), step, tell(0, 1 - of_bit), told(0), tell(0, of_bit))
                self.assertEqual(got[2:4], [refused(-4), number(1 + of_bit)])
                self.assertEqual(got[4], told_label((ZEROS, ONES)[of_bit][0]))
                got = after(step, tell(0, of_bit), tell(0, 1 - of_bit))
                self.assertEqual(got[1:], [told_label((ZEROS, ONES)[of_bit][0]), refused(-4)])

    def test_inputs_are_told_apart(self):
        got = after(tell(0, 0), tell(1, 1), told(0), told(1), told(2), tell(2, 0), tell(1, 0), tell(0, 1))
        self.assertEqual(got[2:5], [number(1), number(2), number(0)])
        self.assertEqual(got[5:], [told_label(ZEROS[2]), refused(-4), refused(-4)])

    def test_no_such_input(self):
        for i in (3, 4, 10, 11, 19, 35, *FAR):
            for of_bit in (0, 1, 2):
                self.assertEqual(after(tell(i, of_bit), told(i)), [refused(-3)] * 2)
                self.assertEqual(after(tables(TOP), tell(i, of_bit), told(i))[1:], [refused(-3)] * 2)

    def test_no_such_bit(self):
        for of_bit in (2, 3, 255, 256, *FAR):
            got = after(tell(0, of_bit), told(0), tell(0, 1), tell(0, of_bit), tell(0, 0), told(0))
            self.assertEqual(got[:2], [refused(-3), number(0)])
            self.assertEqual(got[3:], [refused(-3), refused(-4), number(2)])

    def test_a_new_begin_has_told_nothing(self):
        got = after(tell(0, 0), tell(1, 1), begin(KEY, SEED), told(0), told(1), tell(0, 1), tell(1, 0), told(0))
        self.assertEqual(got[3:5], [number(0)] * 2)
        self.assertEqual(got[5:], [told_label(ONES[0]), told_label(ZEROS[1]), number(2)])
        other = garbling(3, GATES, SEED, KEY)[1]
        self.assertEqual(after(tell(0, 1), begin(SEED, KEY), tell(0, 0))[2], told_label(other[0]))

    def test_a_refused_begin_has_told_what_was_told(self):
        got = after(tell(0, 0), begin(KEY, []), begin(SEED[:15], SEED), told(0), tell(0, 1))
        self.assertEqual(got[3:], [number(1), refused(-4)])

    def test_told_changes_nothing(self):
        got = after(*[told(0)] * 3, tell(0, 1), *[told(0)] * 3)
        self.assertEqual(got, [number(0)] * 3 + [told_label(ONES[0])] + [number(2)] * 3)

    def test_a_load_behind_begin(self):
        large = circuit(16, 16, (), (0,))
        small = circuit(1, 0, (), (0,))
        for other in (large, small):
            got = after(tell(0, 0), load(other), told(0), tell(0, 1), tell(2, 1), told(2), tell(3, 0), told(3))
            self.assertEqual(got[2:4], [number(1), refused(-4)])
            self.assertEqual(got[4:], [told_label(ONES[2]), number(2), refused(-3), refused(-3)])
        got = after(load(large), begin(KEY, SEED), tell(31, 0), tell(32, 0))
        self.assertEqual([got[2][0], got[3]], [0, refused(-3)])

    def test_labels_and_tables_do_not_wait_for_one_another(self):
        calls = [tell(0, 1), tables(1), tell(1, 0), match(TABLES[1]), tell(2, 1), tables(TOP)]
        got = after(*calls)
        self.assertEqual(got[::2], [told_label(ONES[0]), told_label(ZEROS[1]), told_label(ONES[2])])
        self.assertEqual(got[1::2], [(0, TABLES[0], [4, 1]), (0, [], [5, 1]), (1, TABLES[2], [8, 1])])


class NotBothTest(unittest.TestCase):
    """No row of calls from one begin on gets both labels of an input."""

    BETWEEN = (
        told(0), told(1), done(), hint(0), hint(1), settle(0, ZEROS[8]), settle(1, ONES[0]), settle(1, [0] * 16),
        tables(0), tables(1), tables(TOP), match(TABLES[0]), match(STREAM), match([1] * 32), match([1]),
        begin(KEY, []), begin([], SEED), load([]), load(TEXT), load(NO_GATES), shape(), plain([1, 0], [1]),
        opening(KEY), opening([]), give(0, ZEROS[0]), give(0, []), feed([]), feed(STREAM), label(0), label(1),
        tell(0, 2), tell(3, 0), tell(TOP, 1),
    )

    def check(self, calls):
        got = after(*calls)
        for i in range(3):
            seen = {wide(answer[1]) for call, answer in zip(calls, got) if call[:2] == [11, i] and answer[0] == 0}
            asked = [call[2] for call in calls if call[:2] == [11, i] and call[2] < 2]
            self.assertEqual(seen, {wide((ZEROS, ONES)[asked[0]][i])} if asked else set())

    def test_every_short_row(self):
        steps = [tell(i, of_bit) for i in (0, 1) for of_bit in (0, 1)]
        for calls in itertools.product(steps, repeat=4):
            self.check(calls)

    def test_with_every_call_between(self):
        for between in self.BETWEEN:
            for i, of_bit in itertools.product(range(3), (0, 1)):
                self.check((tell(i, of_bit), between, tell(i, 1 - of_bit), between, tell(i, of_bit)))

    def test_long_rows(self):
        chance = random.Random(51)
        for _ in range(15):
            calls = []
            for _ in range(120):
                calls.append(tell(chance.randrange(3), chance.randrange(2)))
                calls.append(chance.choice(self.BETWEEN))
            self.check(calls)


class DoneTest(unittest.TestCase):
    def test_begin_does_none(self):
        self.assertEqual(after(done()), [number(0)])
        for text in (EVEN, NO_GATES, circuit(1, 0, ((8, 0, 0),), (0,))):
            self.assertEqual(ask(load(text), begin(KEY, SEED), done()), number(0))

    def test_after_next(self):
        for most in range(4):
            self.assertEqual(after(tables(most), done())[1], number(DONE[most]))
        got = after(*[call for _ in range(5) for call in (tables(1), done())])
        self.assertEqual(got[1::2], [number(gates) for gates in (4, 5, 8, 8, 8)])

    def test_after_match(self):
        for size in range(4):
            self.assertEqual(after(match(STREAM[:32 * size]), done())[1], number(DONE[size]))
        self.assertEqual(after(match([1] * 32), done())[1], number(1))
        self.assertEqual(after(match(TABLES[0] + TABLES[2]), done())[1], number(4))
        self.assertEqual(after(match([1]), done(), match([1] * 2080), done())[1::2], [number(0)] * 2)

    def test_even_gates_alone(self):
        for step in (tables(0), tables(1), match([]), match([1] * 32)):
            got = run(load(EVEN), begin(KEY, SEED), done(), step, done())
            self.assertEqual(got[2::2], [number(0), number(3)])

    def test_no_gates(self):
        got = run(load(NO_GATES), begin(KEY, SEED), done(), tables(1), done(), match([]), done())
        self.assertEqual(got[2::2], [number(0)] * 3)

    def test_nothing_else_does_gates(self):
        other = (
            done(), tell(0, 0), told(0), hint(0), settle(0, ZEROS[8]), opening(KEY), give(0, ZEROS[0]),
            give(1, ZEROS[1]), give(2, ZEROS[2]), feed(STREAM), label(0), bit(0, 0), load(NO_GATES),
        )
        self.assertEqual(after(*other, done())[-1], number(0))
        self.assertEqual(after(tables(1), *other, done())[-1], number(4))

    def test_a_new_begin(self):
        self.assertEqual(after(tables(2), begin(KEY, SEED), done())[2], number(0))
        self.assertEqual(after(tables(2), begin([], SEED), done())[2], number(5))

    def test_the_largest(self):
        text = circuit(16, 16, tuple((7, 31 + k, k) for k in range(32)), (63,))
        got = run(load(text), begin(KEY, SEED), tables(31), done(), tables(1), done())
        self.assertEqual(got[3::2], [number(31), number(32)])


class HintTest(unittest.TestCase):
    def test_every_output(self):
        got = after(tables(TOP), *[hint(j) for j in range(8)])[1:]
        self.assertEqual(got, [number(ZEROS[wire][0] & 1) for wire in OUTPUTS])

    def test_after_match(self):
        got = after(match(STREAM), *[hint(j) for j in range(8)])[1:]
        self.assertEqual(got, [number(ZEROS[wire][0] & 1) for wire in OUTPUTS])

    def test_both_colours_come(self):
        seen = set()
        for start in range(6):
            d, zeros, _ = garbling(3, GATES, KEY, pseudo(start, 16))
            got = run(load(TEXT), begin(KEY, pseudo(start, 16)), tables(TOP), *[hint(j) for j in range(8)])[3:]
            self.assertEqual(got, [number(zeros[wire][0] & 1) for wire in OUTPUTS])
            seen |= {answer[0] for answer in got}
        self.assertEqual(seen, {0, 1})

    def test_not_all_done(self):
        for step in (done(), tables(0), tables(2), match(STREAM[:64]), match([1] * 32), match([1])):
            got = after(step, *[hint(j) for j in range(8)], done())
            self.assertEqual(got[1:9], [refused(-4)] * 8)

    def test_a_refused_hint_changes_nothing(self):
        got = after(hint(0), hint(9), done(), tables(1), hint(0), tables(TOP), hint(9), hint(0))
        self.assertEqual(got[:4], [refused(-4), refused(-3), number(0), (0, TABLES[0], [4, 1])])
        self.assertEqual(got[4:6], [refused(-4), (1, STREAM[32:], [8, 2])])
        self.assertEqual(got[6:], [refused(-3), number(ZEROS[8][0] & 1)])

    def test_no_such_output(self):
        for j in (8, 9, 10, 11, 16, *FAR):
            self.assertEqual(after(hint(j), tables(TOP), hint(j))[::2], [refused(-3)] * 2)

    def test_even_gates_alone(self):
        zeros = garbling(2, ((6, 0, 1), (9, 0, 2), (15, 3, 3)), KEY, SEED)[1]
        got = run(load(EVEN), begin(KEY, SEED), hint(0), tables(0), hint(0), hint(1), hint(2))
        self.assertEqual(got[2], refused(-4))
        self.assertEqual(got[4:], [number(zeros[4][0] & 1), number(zeros[2][0] & 1), refused(-3)])

    def test_no_gates(self):
        zeros = garbling(3, (), KEY, SEED)[1]
        got = run(load(NO_GATES), begin(KEY, SEED), hint(0), hint(1), hint(2), hint(3))[2:]
        self.assertEqual(got[:3], [number(zeros[wire][0] & 1) for wire in (2, 0, 2)])
        self.assertEqual(got[3], refused(-3))

    def test_a_load_behind_begin(self):
        for other in (NO_GATES, circuit(1, 0, (), (0,) * 16)):
            got = after(load(other), hint(0), tables(TOP), *[hint(j) for j in range(9)])
            self.assertEqual(got[1], refused(-4))
            self.assertEqual(got[3:11], [number(ZEROS[wire][0] & 1) for wire in OUTPUTS])
            self.assertEqual(got[11], refused(-3))

    def test_a_new_begin(self):
        self.assertEqual(after(tables(TOP), hint(0), begin(KEY, SEED), hint(0))[3], refused(-4))


class SettleTest(unittest.TestCase):
    def test_both_labels_of_every_output(self):
        for step in (tables(TOP), match(STREAM)):
            for j, wire in enumerate(OUTPUTS):
                got = after(step, settle(j, ZEROS[wire]), settle(j, ONES[wire]), settle(j, ZEROS[wire]))
                self.assertEqual(got[1:], [number(0), number(1), number(0)])

    def test_labels_of_other_wires(self):
        for j, wire in enumerate(OUTPUTS):
            others = [values for k in range(11) for values in (ZEROS[k], ONES[k])]
            got = after(tables(TOP), *[settle(j, values) for values in others])[1:]
            expected = [
                number(0) if values == ZEROS[wire] else number(1) if values == ONES[wire] else refused(-5)
                for values in others
            ]
            self.assertEqual(got, expected)
            self.assertIn(refused(-5), got)

    def test_each_bit_changed(self):
        for wire in (8, 0, 10):
            j = OUTPUTS.index(wire)
            for values in (ZEROS[wire], ONES[wire]):
                got = after(tables(TOP), *[settle(j, spoiled(values, k)) for k in range(128)])[1:]
                self.assertEqual(got, [refused(-5)] * 128)

    def test_d_and_nothing(self):
        got = after(tables(TOP), settle(0, D), settle(0, [0] * 16), settle(0, [255] * 16))[1:]
        self.assertEqual(got, [refused(-5)] * 3)

    def test_wires_that_never_change(self):
        text = circuit(1, 0, ((0, 0, 0), (15, 0, 0)), (1, 2))
        got = run(load(text), begin(KEY, SEED), tables(0), *[
            settle(j, values) for j in (0, 1) for values in ([0] * 16, D, [1] + [0] * 15)
        ])[3:]
        self.assertEqual(got, [number(0), number(1), refused(-5), number(1), number(0), refused(-5)])

    def test_other_than_sixteen(self):
        for values in ([], ZEROS[8][:15], ZEROS[8] + [0], ZEROS[8] * 2, [0] * 300):
            self.assertEqual(after(tables(TOP), settle(0, values))[1], refused(-1))

    def test_not_all_done(self):
        for step in (done(), tables(0), tables(2), match(STREAM[:64]), match([1] * 32)):
            got = after(step, settle(0, ZEROS[8]), settle(1, ZEROS[0]), settle(1, KEY), done())
            self.assertEqual(got[1:4], [refused(-4)] * 3)

    def test_no_such_output(self):
        for j in (8, 9, 10, 16, *FAR):
            self.assertEqual(after(settle(j, ZEROS[8]), tables(TOP), settle(j, ZEROS[8]))[::2], [refused(-3)] * 2)

    def test_several_refusals_due(self):
        for values in ([], KEY[:15], KEY + KEY):
            self.assertEqual(ask(settle(9, values)), refused(-8))
            self.assertEqual(ask(load(TEXT), settle(9, values)), refused(-8))
            got = after(settle(9, values), settle(0, values), tables(TOP), settle(9, values), settle(0, values))
            self.assertEqual(got[:2] + got[3:], [refused(-1)] * 4)
        got = after(settle(9, KEY), settle(0, KEY), tables(TOP), settle(9, KEY), settle(0, KEY))
        self.assertEqual(got[:2] + got[3:], [refused(-3), refused(-4), refused(-3), refused(-5)])

    def test_it_changes_nothing(self):
        got = after(
            settle(0, ZEROS[8]), tell(0, 0), tables(1), settle(0, ZEROS[8]), told(0), done(), tables(TOP),
            settle(1, ONES[0]), settle(1, KEY), told(0), tell(0, 1), tell(0, 0), done(), settle(1, ONES[0]),
        )
        self.assertEqual(got[3:6], [refused(-4), number(1), number(4)])
        self.assertEqual(got[7:11], [number(1), refused(-5), number(1), refused(-4)])
        self.assertEqual(got[11:], [told_label(ZEROS[0]), number(8), number(1)])

    def test_no_gates(self):
        d, zeros, _ = garbling(3, (), KEY, SEED)
        got = run(load(NO_GATES), begin(KEY, SEED), settle(0, zeros[2]), settle(1, plus(zeros[0], d)), settle(2, D))
        self.assertEqual(got[2:], [number(0), number(1), refused(-5)])

    def test_even_gates_alone(self):
        d, zeros, _ = garbling(2, ((6, 0, 1), (9, 0, 2), (15, 3, 3)), KEY, SEED)
        got = run(load(EVEN), begin(KEY, SEED), settle(1, zeros[2]), match([]), settle(1, plus(zeros[2], d)))
        self.assertEqual(got[2::2], [refused(-4), number(1)])

    def test_a_load_behind_begin(self):
        got = after(load(NO_GATES), settle(7, ONES[8]), tables(TOP), settle(7, ONES[8]), settle(8, ONES[8]))
        self.assertEqual(got[1::2], [refused(-4), number(1)])
        self.assertEqual(got[4], refused(-3))

    def test_many_garblings(self):
        chance = random.Random(52)
        for start in range(12):
            makers, takers, gates, outputs = random_circuit(chance)
            key, seed = pseudo(start, 16), pseudo(start + 70, 16)
            d, zeros, _ = garbling(makers + takers, gates, key, seed)
            calls = [load(circuit(makers, takers, gates, outputs)), begin(key, seed), tables(TOP)]
            expected = []
            for j, wire in enumerate(outputs):
                ones = plus(zeros[wire], d)
                calls += [hint(j), settle(j, zeros[wire]), settle(j, ones), settle(j, spoiled(ones, j * 8))]
                expected += [number(zeros[wire][0] & 1), number(0), number(1), refused(-5)]
            self.assertEqual(run(*calls)[3:], expected)


if __name__ == "__main__":
    unittest.main()
