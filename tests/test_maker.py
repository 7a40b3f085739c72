"""begin, next and match."""

import itertools
import unittest

from helper import (
    ODD_FUNCTIONS, TOP, ask, begin, circuit, garbling, joined, load, match, one, plain, plus, pseudo, refused, run,
    said_plain, shape, tables, when,
)

KEY = pseudo(21, 16)
SEED = pseudo(22, 16)
GATES = ((6, 0, 1), (8, 0, 3), (9, 4, 2), (12, 5, 5), (7, 4, 6), (14, 7, 1), (3, 8, 0), (15, 0, 0))
TEXT = circuit(2, 1, GATES, (8, 9, 10))
TABLES = garbling(3, GATES, KEY, SEED)[2]
STREAM = joined(TABLES)
# How many gates are done when so many tables have been told.
DONE = [1, 4, 5, 8]
FULL_GATES = tuple((ODD_FUNCTIONS[k % 8], 31 + k, k) for k in range(32))
FULL = circuit(16, 16, FULL_GATES, (63,) * 16)
START = (load(TEXT), begin(KEY, SEED))


def after(*calls):
    """The answers of these calls on a new maker."""
    return run(*START, *calls)[2:]


def spoiled(place):
    """The stream with another bit in this byte."""
    return STREAM[:place] + [STREAM[place] ^ 1 << place % 8] + STREAM[place + 1:]


class BeginTest(unittest.TestCase):
    def test_answer(self):
        self.assertEqual(run(*START), [(0, [], []), (0, [], [])])

    def test_no_circuit(self):
        self.assertEqual(ask(begin(KEY, SEED)), refused(-8))
        self.assertEqual(ask(begin([], [1] * 99)), refused(-8))

    def test_other_than_sixteen(self):
        for size in (0, 1, 15, 17, 32):
            self.assertEqual(ask(load(TEXT), begin([1] * size, SEED)), refused(-1))
            self.assertEqual(ask(load(TEXT), begin(KEY, [1] * size)), refused(-1))

    def test_a_refused_begin_makes_no_maker(self):
        self.assertEqual(ask(load(TEXT), begin(KEY, []), tables(1)), refused(-8))

    def test_a_refused_begin_leaves_the_maker(self):
        told = after(tables(1), begin(KEY, [1] * 15), tables(1))
        self.assertEqual(told, [(0, TABLES[0], [4, 1]), refused(-1), (0, TABLES[1], [5, 1])])

    def test_a_second_begin_starts_again(self):
        told = after(tables(2), begin(KEY, SEED), tables(TOP))
        self.assertEqual(told[2], (1, STREAM, [8, 3]))
        other = garbling(3, GATES, SEED, KEY)[2]
        self.assertEqual(after(tables(2), begin(SEED, KEY), tables(TOP))[2], (1, joined(other), [8, 3]))


class NextTest(unittest.TestCase):
    def test_all_at_once(self):
        for most in (3, 4, 32, 65536, 2 ** 63, TOP):
            self.assertEqual(after(tables(most)), [(1, STREAM, [8, 3])])

    def test_none(self):
        self.assertEqual(after(tables(0), tables(0)), [(0, [], [1, 0]), (0, [], [1, 0])])

    def test_some(self):
        self.assertEqual(after(tables(1)), [(0, TABLES[0], [4, 1])])
        self.assertEqual(after(tables(2)), [(0, TABLES[0] + TABLES[1], [5, 2])])

    def test_however_it_is_cut(self):
        for cuts in itertools.product(range(4), repeat=4):
            told = after(*[tables(most) for most in cuts])
            at = 0
            for most, answer in zip(cuts, told):
                end = min(3, at + most)
                self.assertEqual(answer, (int(end == 3), joined(TABLES[at:end]), [DONE[end], end - at]), cuts)
                at = end

    def test_when_all_are_done(self):
        told = after(tables(9), tables(0), tables(1), tables(TOP))
        self.assertEqual(told[1:], [(1, [], [8, 0])] * 3)

    def test_even_gates_alone(self):
        text = circuit(1, 1, ((6, 0, 1), (9, 0, 2), (15, 3, 3)), (4,))
        self.assertEqual(run(load(text), begin(KEY, SEED), tables(0))[2], (1, [], [3, 0]))
        self.assertEqual(run(load(text), begin(KEY, SEED), tables(5))[2], (1, [], [3, 0]))

    def test_no_gates(self):
        text = circuit(1, 0, (), (0,))
        for most in (0, 1, TOP):
            self.assertEqual(run(load(text), begin(KEY, SEED), tables(most))[2], (1, [], [0, 0]))

    def test_the_largest(self):
        stream = joined(garbling(32, FULL_GATES, KEY, SEED)[2])
        told = run(load(FULL), begin(KEY, SEED), tables(31), tables(1))
        self.assertEqual(told[2], (0, stream[:31 * 32], [31, 31]))
        self.assertEqual(told[3], (1, stream[31 * 32:], [32, 1]))

    def test_every_function_at_every_place(self):
        for f in range(16):
            gates = ((f, 0, 1), (f, 2, 0), (f, 2, 3), (f, 4, 4))
            for start in range(3):
                key, seed = pseudo(start, 16), pseudo(start + f, 16)
                stream = joined(garbling(2, gates, key, seed)[2])
                told = run(load(circuit(1, 1, gates, (5,))), begin(key, seed), tables(TOP))[2]
                self.assertEqual(told, (1, stream, [4, len(stream) // 32]))

    def test_no_maker(self):
        self.assertEqual(ask(tables(0)), refused(-8))
        self.assertEqual(ask(load(TEXT), tables(TOP)), refused(-8))

    def test_what_is_told_depends_on_key_and_seed(self):
        seen = [ask(load(TEXT), begin(key, seed), tables(9))[1] for key in (KEY, SEED) for seed in (KEY, SEED)]
        for first, second in itertools.combinations(seen, 2):
            self.assertNotEqual(first, second)

    def test_calls_between_change_nothing(self):
        told = after(plain([1, 0], [1]), shape(), tables(1), load([]), plain([], []), match([1]), tables(9))
        self.assertEqual(told[2][1] + told[6][1], STREAM)


class MatchTest(unittest.TestCase):
    def test_the_right_stream(self):
        self.assertEqual(after(match(STREAM)), [(1, [], [8, 3])])

    def test_nothing(self):
        self.assertEqual(after(match([]), match([])), [(0, [], [1, 0])] * 2)

    def test_cut(self):
        for size in range(4):
            self.assertEqual(after(match(STREAM[:32 * size])), [(int(size == 3), [], [DONE[size], size])])

    def test_however_it_is_cut(self):
        for first in range(4):
            for second in range(first, 4):
                told = after(*[match(STREAM[32 * p:32 * q]) for p, q in ((0, first), (first, second), (second, 3))])
                self.assertEqual(told[0], (int(first == 3), [], [DONE[first], first]))
                self.assertEqual(told[1], (int(second == 3), [], [DONE[second], second - first]))
                self.assertEqual(told[2], (1, [], [8, 3 - second]))

    def test_another_table(self):
        for place in range(96):
            same = place // 32
            told = after(match(spoiled(place)), match(STREAM[32 * same:]))
            self.assertEqual(told, [(2, [], [DONE[same], same]), (1, [], [8, 3 - same])])

    def test_tables_in_another_order(self):
        self.assertEqual(after(match(STREAM[32:])), [(2, [], [1, 0])])
        self.assertEqual(after(match(TABLES[0] + TABLES[2])), [(2, [], [4, 1])])

    def test_ended_at_another_table_next_goes_on(self):
        told = after(match(spoiled(40)), tables(9))
        self.assertEqual(told, [(2, [], [4, 1]), (1, STREAM[32:], [8, 2])])

    def test_too_long(self):
        for more in ([0] * 32, STREAM, [255] * (2048 - 96)):
            self.assertEqual(after(match(STREAM + more)), [(1, [], [8, 3])])

    def test_lengths(self):
        self.assertEqual(after(match(STREAM + [0] * 1952)), [(1, [], [8, 3])])
        self.assertEqual(after(match(STREAM + [0] * 1953)), [refused(-2)])
        self.assertEqual(after(match(STREAM + [0] * 1984)), [refused(-2)])
        self.assertEqual(after(match(STREAM + [0] * 1951)), [refused(-1)])
        self.assertEqual(after(match([0] * 15000)), [refused(-2)])
        for size in (1, 16, 31, 33, 63, 65, 2047):
            self.assertEqual(after(match((STREAM * 22)[:size])), [refused(-1)])

    def test_a_refusal_changes_nothing(self):
        for wrong in (STREAM[:95], STREAM + [1], STREAM + [0] * 1984, STREAM * 22):
            told = after(match(wrong), tables(1), match(wrong), tables(0), match(STREAM[32:]))
            self.assertEqual(told[1], (0, TABLES[0], [4, 1]))
            self.assertEqual(told[3], (0, [], [4, 0]))
            self.assertEqual(told[4], (1, [], [8, 2]))

    def test_when_all_are_done(self):
        told = after(match(STREAM), match([]), match([7] * 32), match(STREAM), match([7]), match([7] * 2080))
        self.assertEqual(told[1:], [(1, [], [8, 0])] * 3 + [refused(-1), refused(-2)])

    def test_mixed_with_next(self):
        for steps in itertools.product(("next", "match"), repeat=3):
            told = after(*[tables(1) if step == "next" else match(TABLES[k]) for k, step in enumerate(steps)])
            for k, step in enumerate(steps):
                expected = TABLES[k] if step == "next" else []
                self.assertEqual(told[k], (int(k == 2), expected, [DONE[k + 1], 1]))

    def test_even_gates_alone(self):
        text = circuit(1, 1, ((6, 0, 1), (9, 0, 2), (15, 3, 3)), (4,))
        for stream in ([], [9] * 32):
            self.assertEqual(run(load(text), begin(KEY, SEED), match(stream))[2], (1, [], [3, 0]))

    def test_no_gates(self):
        text = circuit(1, 0, (), (0,))
        for stream in ([], [9] * 64):
            self.assertEqual(run(load(text), begin(KEY, SEED), match(stream))[2], (1, [], [0, 0]))

    def test_the_largest(self):
        stream = joined(garbling(32, FULL_GATES, KEY, SEED)[2])
        told = run(load(FULL), begin(KEY, SEED), match(stream + [0] * 1024), begin(KEY, SEED), match(stream[:992]))
        self.assertEqual((told[2], told[4]), ((1, [], [32, 32]), (0, [], [31, 31])))

    def test_no_maker(self):
        for stream in ([], STREAM, [1], [1] * 2049):
            self.assertEqual(ask(match(stream)), refused(-8))
            self.assertEqual(ask(load(TEXT), match(stream)), refused(-8))


class LoadAfterBeginTest(unittest.TestCase):
    def test_the_maker_goes_on_with_its_own_circuit(self):
        told = after(tables(1), load(FULL), shape(), tables(1), match(TABLES[2]), tables(TOP))
        self.assertEqual(told[2], (0, [], [16, 16, 32, 16, 32]))
        self.assertEqual(told[3:], [(0, TABLES[1], [5, 1]), (1, [], [8, 1]), (1, [], [8, 0])])

    def test_begin_after_it_takes_the_new_one(self):
        stream = joined(garbling(32, FULL_GATES, KEY, SEED)[2])
        told = after(tables(1), load(FULL), begin(KEY, SEED), tables(TOP))
        self.assertEqual(told[3], (1, stream, [32, 32]))

    def test_a_circuit_loaded_ahead_of_any_step(self):
        told = after(load(circuit(1, 0, (), (0,))), tables(TOP))
        self.assertEqual(told[1], (1, STREAM, [8, 3]))


class TakerByHandTest(unittest.TestCase):
    """The taker's way through the stream by one, gate after gate."""

    def taken(self, gates, labels, stream, key):
        held = list(labels)
        used = 0
        for g, (f, a, b) in enumerate(gates):
            told = [0] * 32
            if f in ODD_FUNCTIONS:
                told = stream[used:used + 32]
                used += 32
            held.append(ask(one(f, g, key, held[a], held[b], told))[1])
        return held

    def check(self, gates, bits, makers, key, seed):
        text = circuit(makers, len(bits) - makers, gates, (len(bits) + len(gates) - 1,))
        told = run(load(text), begin(key, seed), tables(TOP), plain(bits[:makers], bits[makers:]))
        d, zeros, _ = garbling(len(bits), gates, key, seed)
        labels = [plus(nought, when(bit, d)) for nought, bit in zip(zeros, bits)]
        held = self.taken(gates, labels, told[2][1], key)
        values = said_plain(bits, gates, range(len(zeros)))
        self.assertEqual(held, [plus(nought, when(bit, d)) for nought, bit in zip(zeros, values)])
        self.assertEqual(told[3], (0, [], values[-1:]))

    def test_small(self):
        for bits in itertools.product((0, 1), repeat=3):
            self.check(GATES, list(bits), 2, KEY, SEED)

    def test_largest(self):
        gates = tuple((k * 7 % 16, (31 + k) * 5 % (32 + k), (k * 3) % (32 + k)) for k in range(32))
        for start in range(4):
            bits = [byte >> 2 & 1 for byte in pseudo(start, 32)]
            self.check(gates, bits, 16, pseudo(start, 16), pseudo(start + 9, 16))


if __name__ == "__main__":
    unittest.main()
