"""open, give, feed, label and bit."""

import itertools
import random
import unittest

from helper import (
    EVEN_FUNCTIONS, ODD_FUNCTIONS, TOP, ask, bit, circuit, cut, feed, garbling, give, joined, label, labels_of, load,
    opening, plus, pseudo, random_circuit, refused, run, said_one, said_plain, shape, taken,
)

KEY = pseudo(61, 16)
SEED = pseudo(62, 16)
# Even gates ahead of, between and behind the odd ones.
GATES = ((6, 0, 1), (8, 0, 3), (9, 4, 2), (12, 5, 5), (7, 4, 6), (14, 7, 1), (3, 8, 0), (15, 0, 0))
OUTPUTS = (8, 0, 2, 10, 8, 4, 9, 8)
TEXT = circuit(2, 1, GATES, OUTPUTS)
D, ZEROS, TABLES = garbling(3, GATES, KEY, SEED)
STREAM = joined(TABLES)
BITS = (1, 0, 1)
GIVEN = labels_of(D, ZEROS, BITS)
HELD = taken(GIVEN, GATES, KEY, STREAM)
MADE = [HELD[wire] for wire in OUTPUTS]
GIVES = tuple(give(i, values) for i, values in enumerate(GIVEN))
OPENED = (load(TEXT), opening(KEY))
START = OPENED + GIVES
ALL_LABELS = tuple(label(j) for j in range(8))
FAR = (2 ** 16, 2 ** 32, 2 ** 63, TOP - 1, TOP)
NO_GATES = circuit(1, 2, (), (2, 0, 2))
EVEN_GATES = ((6, 0, 1), (9, 0, 2), (15, 3, 3))
EVEN = circuit(1, 1, EVEN_GATES, (4, 2, 3))
NOTHING = (0, [], [])


def after(*calls):
    """The answers of these calls on a new taker that has a label for each input."""
    return run(*START, *calls)[5:]


def fed(number, count):
    return (number, [], [count])


def label_answers(rows):
    return [(0, values, []) for values in rows]


class OpenTest(unittest.TestCase):
    def test_answer(self):
        self.assertEqual(run(*OPENED), [NOTHING, NOTHING])

    def test_no_circuit(self):
        for key in (KEY, [], KEY[:15], KEY + KEY):
            self.assertEqual(ask(opening(key)), refused(-8))
            self.assertEqual(ask(load(TEXT[:-1]), opening(key)), refused(-8))

    def test_other_than_sixteen(self):
        for key in ([], KEY[:1], KEY[:15], KEY + [0], KEY + KEY, [0] * 300):
            self.assertEqual(run(load(TEXT), opening(key), label(0))[1:], [refused(-1), refused(-8)])

    def test_a_refused_one_leaves_the_taker(self):
        got = after(feed(STREAM[:40]), opening([]), feed(STREAM[40:]), opening(KEY[:15]), *ALL_LABELS)
        self.assertEqual(got[:4], [fed(0, 40), refused(-1), fed(1, 56), refused(-1)])
        self.assertEqual(got[4:], label_answers(MADE))
        self.assertEqual(ask(*START, opening([]), feed(STREAM)), fed(1, 96))

    def test_a_new_one_has_no_labels(self):
        got = after(opening(KEY), feed(STREAM), *GIVES[1:], feed(STREAM), GIVES[0], feed(STREAM))
        self.assertEqual(got, [NOTHING, refused(-4), NOTHING, NOTHING, refused(-4), NOTHING, fed(1, 96)])

    def test_a_new_one_behind_a_feed(self):
        for size in (0, 31, 40, 96):
            got = after(feed(STREAM[:size]), opening(KEY), label(0), *GIVES, label(0), feed(STREAM), *ALL_LABELS)
            self.assertEqual(got[1:8], [NOTHING, refused(-4), NOTHING, NOTHING, NOTHING, refused(-4), fed(1, 96)])
            self.assertEqual(got[8:], label_answers(MADE))

    def test_the_key_counts(self):
        got = run(load(TEXT), opening(SEED), *GIVES, feed(STREAM), *ALL_LABELS)[6:]
        held = taken(GIVEN, GATES, SEED, STREAM)
        self.assertEqual(got, label_answers(held[wire] for wire in OUTPUTS))
        self.assertNotEqual(held[8], HELD[8])

    def test_a_load_behind_it(self):
        for other in (NO_GATES, circuit(16, 16, (), (0,) * 16), circuit(0, 1, ((1, 0, 0),), (1,))):
            got = run(*OPENED, load(other), shape(), *GIVES, give(3, KEY), feed(STREAM), *ALL_LABELS, label(8))
            self.assertEqual(got[4:9], [NOTHING] * 3 + [refused(-3), fed(1, 96)])
            self.assertEqual(got[9:], label_answers(MADE) + [refused(-3)])

    def test_a_load_in_the_midst(self):
        got = after(feed(STREAM[:70]), load(NO_GATES), feed(STREAM[70:]), *ALL_LABELS, label(8), bit(7, 0), bit(8, 0))
        self.assertEqual(got[2], fed(1, 26))
        self.assertEqual(got[3:12], label_answers(MADE) + [refused(-3)])
        self.assertEqual(got[12:], [(MADE[7][0] & 1, [], []), refused(-3)])

    def test_one_behind_a_load_is_of_the_new_circuit(self):
        got = after(load(NO_GATES), opening(KEY), *GIVES, feed(STREAM), label(0), label(2), label(3))
        self.assertEqual(got[5:], [fed(1, 0)] + label_answers([GIVEN[2], GIVEN[2]]) + [refused(-3)])


class GiveTest(unittest.TestCase):
    def test_in_any_order(self):
        for order in itertools.permutations(GIVES):
            got = run(*OPENED, *order, feed(STREAM), *ALL_LABELS)
            self.assertEqual(got[2:5], [NOTHING] * 3)
            self.assertEqual(got[6:], label_answers(MADE))

    def test_in_place_of_one_before(self):
        for i in range(3):
            wrong = [give(i, KEY), give(i, [0] * 16), give(i, SEED)]
            got = run(*OPENED, *wrong, *GIVES, feed(STREAM), *ALL_LABELS)
            self.assertEqual(got[2:8], [NOTHING] * 6)
            self.assertEqual(got[9:], label_answers(MADE))
            got = after(give(i, KEY), feed(STREAM), *ALL_LABELS)
            other = GIVEN[:i] + [KEY] + GIVEN[i + 1:]
            held = taken(other, GATES, KEY, STREAM)
            self.assertEqual(got[2:], label_answers(held[wire] for wire in OUTPUTS))

    def test_no_such_input(self):
        for i in (3, 4, 8, 10, 11, 31, *FAR):
            self.assertEqual(ask(*OPENED, give(i, KEY)), refused(-3))
            self.assertEqual(after(give(i, KEY), feed([]), give(i, KEY))[::2], [refused(-3)] * 2)

    def test_other_than_sixteen(self):
        for values in ([], KEY[:15], KEY + [0], KEY + KEY, [0] * 300):
            for i in (0, 2, 3, TOP):
                self.assertEqual(ask(give(i, values)), refused(-8))
                self.assertEqual(ask(load(TEXT), give(i, values)), refused(-8))
                self.assertEqual(ask(*OPENED, give(i, values)), refused(-1))
                self.assertEqual(after(feed([]), give(i, values))[1], refused(-1))

    def test_a_refused_one_keeps_nothing(self):
        got = after(give(0, []), give(3, KEY), give(1, KEY[:15]), feed(STREAM), give(0, KEY), *ALL_LABELS)
        self.assertEqual(got[:5], [refused(-1), refused(-3), refused(-1), fed(1, 96), refused(-4)])
        self.assertEqual(got[5:], label_answers(MADE))
        self.assertEqual(run(*OPENED, *GIVES[1:], give(0, KEY[:15]), feed(STREAM))[5], refused(-4))

    def test_behind_a_feed(self):
        for piece in ([], STREAM[:1], STREAM[:32], STREAM):
            got = after(feed(piece), *GIVES, give(0, KEY), give(3, KEY), feed(STREAM[len(piece):]), *ALL_LABELS)
            self.assertEqual(got[1:6], [refused(-4)] * 4 + [refused(-3)])
            self.assertEqual(got[6:], [fed(1, 96 - len(piece))] + label_answers(MADE))

    def test_behind_a_refused_feed(self):
        calls = (feed(STREAM), GIVES[0], feed(STREAM[:7]), GIVES[1], feed([0] * 2049), GIVES[2], feed([0] * 2049))
        got = run(*OPENED, *calls, give(1, KEY), GIVES[1], feed(STREAM), give(1, KEY), *ALL_LABELS)[2:]
        self.assertEqual(got[:7], [refused(-4), NOTHING, refused(-4), NOTHING, refused(-2), NOTHING, refused(-2)])
        self.assertEqual(got[7:11], [NOTHING, NOTHING, fed(1, 96), refused(-4)])
        self.assertEqual(got[11:], label_answers(MADE))

    def test_behind_a_feed_and_a_refused_one(self):
        got = after(feed([]), feed([0] * 2049), give(0, GIVEN[0]))
        self.assertEqual(got, [fed(0, 0), refused(-2), refused(-4)])

    def test_behind_a_feed_of_no_gates(self):
        got = run(load(NO_GATES), opening(KEY), *GIVES, feed([]), give(0, KEY), label(1))[5:]
        self.assertEqual(got, [fed(1, 0), refused(-4), (0, GIVEN[0], [])])


class FeedTest(unittest.TestCase):
    def test_whole(self):
        got = after(feed(STREAM), *ALL_LABELS)
        self.assertEqual(got, [fed(1, 96)] + label_answers(MADE))

    def test_cut_at_every_place(self):
        for size in range(97):
            got = after(feed(STREAM[:size]), feed(STREAM[size:]), *ALL_LABELS)
            self.assertEqual(got[:2], [fed(int(size == 96), size), fed(1, 96 - size)])
            self.assertEqual(got[2:], label_answers(MADE))

    def test_byte_by_byte(self):
        got = after(*[feed([byte]) for byte in STREAM], *ALL_LABELS)
        self.assertEqual(got[:96], [fed(0, 1)] * 95 + [fed(1, 1)])
        self.assertEqual(got[96:], label_answers(MADE))

    def test_with_empty_pieces(self):
        calls = [feed([])]
        for byte in STREAM:
            calls += [feed([byte]), feed([])]
        got = after(*calls, *ALL_LABELS)
        self.assertEqual(got[:193], [fed(0, 0)] + [fed(0, 1), fed(0, 0)] * 95 + [fed(1, 1), fed(1, 0)])
        self.assertEqual(got[193:], label_answers(MADE))

    def test_cut_in_many_ways(self):
        chance = random.Random(63)
        for _ in range(60):
            pieces = cut(chance, STREAM, chance.randint(1, 12))
            got = after(*[feed(piece) for piece in pieces], *ALL_LABELS)
            seen = 0
            for piece, answer in zip(pieces, got):
                seen += len(piece)
                self.assertEqual(answer, fed(int(seen == 96), len(piece)))
            self.assertEqual(got[len(pieces):], label_answers(MADE))

    def test_more_than_wanted(self):
        for more in ([0], [255] * 31, [7] * 32, STREAM, [9] * (2048 - 96)):
            got = after(feed(STREAM + more), *ALL_LABELS)
            self.assertEqual(got, [fed(1, 96)] + label_answers(MADE))
        for size in range(97):
            got = after(feed(STREAM[:size]), feed(STREAM[size:] + [1, 2, 3]), *ALL_LABELS)
            self.assertEqual(got[1:], [fed(1, 96 - size)] + label_answers(MADE))

    def test_lengths(self):
        longest = STREAM + [3] * (2048 - 96)
        self.assertEqual(after(feed(longest))[0], fed(1, 96))
        for more in (1, 2, 32, 2048, 13000):
            got = after(feed(longest + [3] * more), feed(STREAM), feed(longest + [3] * more), label(0))
            self.assertEqual(got, [refused(-2), fed(1, 96), refused(-2), (0, MADE[0], [])])

    def test_a_long_stream_is_taken_whole(self):
        gates = tuple((ODD_FUNCTIONS[k % 8], 31 + k, k) for k in range(32))
        d, zeros, tables = garbling(32, gates, KEY, SEED)
        given = labels_of(d, zeros, [k % 3 % 2 for k in range(32)])
        stream = joined(tables)
        held = taken(given, gates, KEY, stream)
        gives = [give(i, values) for i, values in enumerate(given)]
        head = (load(circuit(16, 16, gates, (63, 62, 40))), opening(KEY), *gives)
        self.assertEqual(len(stream), 1024)
        for pieces in ([stream], [stream + [1] * 1024], [stream[:1023], stream[1023:]], [stream[:1], stream[1:] * 2]):
            got = run(*head, *[feed(piece) for piece in pieces], label(0), label(1), label(2))[34:]
            counts = [min(len(pieces[0]), 1024), 1024 - min(len(pieces[0]), 1024)][:len(pieces)]
            self.assertEqual([answer[2] for answer in got[:-3]], [[count] for count in counts])
            self.assertEqual([answer[0] for answer in got[:-3]], [0] * (len(pieces) - 1) + [1])
            self.assertEqual(got[-3:], label_answers([held[63], held[62], held[40]]))

    def test_behind_the_last_gate(self):
        for more in ([], [1], [2] * 31, [3] * 32, STREAM, [4] * 2048):
            got = after(feed(STREAM), feed(more), *ALL_LABELS, feed(more), *ALL_LABELS)
            self.assertEqual(got[1:], ([fed(1, 0)] + label_answers(MADE)) * 2)

    def test_even_gates_alone(self):
        held = taken(GIVEN[:2], EVEN_GATES, KEY, [])
        for piece in ([], [1], [2] * 32, [3] * 2048):
            got = run(load(EVEN), opening(KEY), *GIVES[:2], feed(piece), label(0), label(1), label(2))[4:]
            self.assertEqual(got, [fed(1, 0)] + label_answers([held[4], held[2], held[3]]))

    def test_every_even_function(self):
        for f in EVEN_FUNCTIONS:
            text = circuit(1, 1, ((f, 0, 1), (f, 2, 0)), (2, 3))
            got = run(load(text), opening(KEY), give(0, KEY), give(1, SEED), feed([]), label(0), label(1))[4:]
            first = said_one(f, 0, KEY, KEY, SEED, [0] * 32)
            second = said_one(f, 1, KEY, first, KEY, [0] * 32)
            self.assertEqual(got, [fed(1, 0)] + label_answers([first, second]))

    def test_no_gates(self):
        for piece in ([], [1], [2] * 32, [3] * 2048):
            got = run(load(NO_GATES), opening(KEY), *GIVES, feed(piece), label(0), label(1), label(2))[5:]
            self.assertEqual(got, [fed(1, 0)] + label_answers([GIVEN[2], GIVEN[0], GIVEN[2]]))

    def test_even_gates_ahead_between_and_behind(self):
        even = (6, 0, 1)
        for places in itertools.product((0, 2), repeat=3):
            gates = (even,) * places[0] + ((8, 0, 1),) + (even,) * places[1] + ((7, 1, 0),) + (even,) * places[2]
            wires = range(2, 2 + len(gates))
            d, zeros, tables = garbling(2, gates, KEY, SEED)
            given = labels_of(d, zeros, (1, 1))
            held = taken(given, gates, KEY, joined(tables))
            text = circuit(1, 1, gates, tuple(wires))
            for size in (0, 31, 32, 33, 63):
                got = run(
                    load(text), opening(KEY), give(0, given[0]), give(1, given[1]), feed(joined(tables)[:size]),
                    feed(joined(tables)[size:] + [8]), *[label(j) for j in range(len(gates))],
                )[4:]
                self.assertEqual(got[:2], [fed(0, size), fed(1, 64 - size)])
                self.assertEqual(got[2:], label_answers(held[wire] for wire in wires))

    def test_an_input_without_a_label(self):
        for missing in range(3):
            gives = [call for i, call in enumerate(GIVES) if i != missing]
            for piece in ([], [1], STREAM, [1] * 2048):
                self.assertEqual(ask(*OPENED, *gives, feed(piece)), refused(-4))
            for size in (2049, 5000):
                self.assertEqual(ask(*OPENED, *gives, feed([1] * size)), refused(-2))
        self.assertEqual(ask(*OPENED, feed([])), refused(-4))
        self.assertEqual(ask(load(NO_GATES), opening(KEY), feed([])), refused(-4))
        self.assertEqual(ask(load(EVEN), opening(KEY), GIVES[1], feed([])), refused(-4))

    def test_every_input_wants_one_though_no_gate_does(self):
        text = circuit(16, 16, ((8, 0, 0),), (32,))
        gives = [give(i, pseudo(i, 16)) for i in range(32)]
        for missing in range(32):
            others = gives[:missing] + gives[missing + 1:]
            got = run(load(text), opening(KEY), *others, feed([]), gives[missing], feed([]))
            self.assertEqual(got[33:], [refused(-4), NOTHING, fed(0, 0)])

    def test_a_label_of_noughts_is_one(self):
        got = run(load(NO_GATES), opening(KEY), *[give(i, [0] * 16) for i in range(3)], feed([]), label(0))[5:]
        self.assertEqual(got, [fed(1, 0), (0, [0] * 16, [])])

    def test_a_refused_one_changes_nothing(self):
        got = run(*OPENED, *GIVES[:2], feed(STREAM[:50]), GIVES[2], feed(STREAM), *ALL_LABELS)[4:]
        self.assertEqual(got, [refused(-4), NOTHING, fed(1, 96)] + label_answers(MADE))
        for size in (0, 1, 40, 64, 95):
            long = STREAM[size:] + [0] * 2048
            got = after(feed(STREAM[:size]), feed(long), label(0), feed(long), feed(STREAM[size:]), *ALL_LABELS)
            self.assertEqual(got[:4], [fed(0, size), refused(-2), refused(-4), refused(-2)])
            self.assertEqual(got[4:], [fed(1, 96 - size)] + label_answers(MADE))

    def test_no_taker(self):
        for piece in ([], STREAM, [1] * 2049):
            self.assertEqual(ask(feed(piece)), refused(-8))
            self.assertEqual(ask(load(TEXT), feed(piece)), refused(-8))

    def test_what_is_no_garblings(self):
        chance = random.Random(64)
        for _ in range(40):
            makers, takers, gates, outputs = random_circuit(chance)
            odd = sum(f in ODD_FUNCTIONS for f, _, _ in gates)
            given = [list(chance.randbytes(16)) for _ in range(makers + takers)]
            key = list(chance.randbytes(16))
            stream = list(chance.randbytes(32 * odd))
            pieces = cut(chance, stream + list(chance.randbytes(chance.choice((0, 40)))), chance.randint(1, 6))
            held = taken(given, gates, key, stream)
            calls = [load(circuit(makers, takers, gates, outputs)), opening(key)]
            calls += [give(i, values) for i, values in enumerate(given)]
            calls += [feed(piece) for piece in pieces]
            got = run(*calls, *[label(j) for j in range(len(outputs))], *[bit(j, j % 2) for j in range(len(outputs))])
            counts = [answer[2][0] for answer in got[2 + len(given):len(calls)]]
            self.assertEqual(sum(counts), len(stream))
            expected = label_answers(held[wire] for wire in outputs)
            expected += [(held[wire][0] & 1 ^ j % 2, [], []) for j, wire in enumerate(outputs)]
            self.assertEqual(got[len(calls):], expected)

    def test_a_changed_table_changes_what_looks_at_it(self):
        for place in range(96):
            stream = STREAM[:place] + [STREAM[place] ^ 128] + STREAM[place + 1:]
            held = taken(GIVEN, GATES, KEY, stream)
            got = after(feed(stream), *ALL_LABELS)[1:]
            self.assertEqual(got, label_answers(held[wire] for wire in OUTPUTS))


class LabelTest(unittest.TestCase):
    def test_before_any_feed(self):
        self.assertEqual(run(*OPENED, *ALL_LABELS)[2:], [refused(-4)] * 8)
        self.assertEqual(after(*ALL_LABELS), [refused(-4)] * 8)

    def test_before_any_feed_of_no_gates(self):
        for text, gives in ((NO_GATES, GIVES), (EVEN, GIVES[:2])):
            got = run(load(text), opening(KEY), label(0), *gives, label(0), bit(0, 1), feed([]), label(0))
            self.assertEqual(got[2], refused(-4))
            self.assertEqual(got[-4:-1], [refused(-4), refused(-4), fed(1, 0)])
            self.assertEqual(got[-1][0], 0)

    def test_after_one_that_answered_nought(self):
        for size in range(96):
            self.assertEqual(after(feed(STREAM[:size]), *ALL_LABELS)[1:], [refused(-4)] * 8)

    def test_after_a_refused_feed(self):
        got = run(*OPENED, feed(STREAM), label(0), *GIVES, feed([0] * 2049), label(0), bit(0, 0))
        self.assertEqual((got[3], got[8], got[9]), (refused(-4),) * 3)
        got = after(feed(STREAM), feed([0] * 2049), give(0, KEY), *ALL_LABELS, bit(0, 0))
        self.assertEqual(got[1:3], [refused(-2), refused(-4)])
        self.assertEqual(got[3:], label_answers(MADE) + [(MADE[0][0] & 1, [], [])])

    def test_as_often_as_one_likes(self):
        self.assertEqual(after(feed(STREAM), *ALL_LABELS * 3)[1:], label_answers(MADE) * 3)

    def test_no_such_output(self):
        for j in (8, 9, 10, 11, 16, *FAR):
            got = after(label(j), feed(STREAM[:40]), label(j), feed(STREAM[40:]), label(j))
            self.assertEqual(got[::2], [refused(-3)] * 3)

    def test_it_changes_nothing(self):
        got = after(label(0), label(8), feed(STREAM[:40]), label(0), label(8), feed(STREAM[40:]), *ALL_LABELS)
        self.assertEqual(got[2], fed(0, 40))
        self.assertEqual(got[5:], [fed(1, 56)] + label_answers(MADE))
        got = run(*OPENED, label(0), bit(0, 0), GIVES[0], label(9), bit(9, 9), *GIVES[1:], feed(STREAM), label(0))
        self.assertEqual(got[9:], [fed(1, 96), (0, MADE[0], [])])

    def test_no_taker(self):
        for j in (0, 99):
            self.assertEqual(ask(label(j)), refused(-8))
            self.assertEqual(ask(load(TEXT), label(j)), refused(-8))


class BitTest(unittest.TestCase):
    def test_the_right_hints_give_the_bits(self):
        for bits in itertools.product((0, 1), repeat=3):
            given = labels_of(D, ZEROS, bits)
            asked = [bit(j, ZEROS[wire][0] & 1) for j, wire in enumerate(OUTPUTS)]
            gives = [give(i, values) for i, values in enumerate(given)]
            got = run(*OPENED, *gives, feed(STREAM), *asked)[6:]
            self.assertEqual(got, [(value, [], []) for value in said_plain(bits, GATES, OUTPUTS)])

    def test_either_hint(self):
        for j in range(8):
            got = after(feed(STREAM), bit(j, 0), bit(j, 1))[1:]
            self.assertEqual(got, [(MADE[j][0] & 1, [], []), (1 - (MADE[j][0] & 1), [], [])])

    def test_both_colours(self):
        for colour in (0, 1):
            values = [254 + colour] + [170] * 15
            for of_hint in (0, 1):
                got = ask(load(circuit(1, 0, (), (0,))), opening(KEY), give(0, values), feed([]), bit(0, of_hint))
                self.assertEqual(got, (colour ^ of_hint, [], []))

    def test_before_any_feed_and_after_nought(self):
        self.assertEqual(run(*OPENED, bit(0, 0), bit(7, 1))[2:], [refused(-4)] * 2)
        self.assertEqual(after(bit(0, 0), bit(7, 1)), [refused(-4)] * 2)
        for size in (0, 1, 32, 64, 95):
            self.assertEqual(after(feed(STREAM[:size]), bit(0, 0), bit(7, 1))[1:], [refused(-4)] * 2)

    def test_no_such_output_or_hint(self):
        wrong = [(8, 0), (8, 1), (9, 2), (TOP, 0), (0, 2), (7, 3), (0, 256), (0, TOP), (TOP, TOP), (0, 2 ** 63)]
        for j, of_hint in wrong:
            asked = bit(j, of_hint)
            got = after(asked, feed(STREAM[:40]), asked, feed(STREAM[40:]), asked, feed([]), asked)
            self.assertEqual(got[::2], [refused(-3)] * 4)
            self.assertEqual(got[1::2], [fed(0, 40), fed(1, 56), fed(1, 0)])

    def test_no_taker(self):
        for asked in (bit(0, 0), bit(99, 0), bit(0, 99)):
            self.assertEqual(ask(asked), refused(-8))
            self.assertEqual(ask(load(TEXT), asked), refused(-8))


class ColourTest(unittest.TestCase):
    """What the taker makes of labels of each colour, at every odd function and place."""

    def test_every_odd_function(self):
        for f, first, second in itertools.product(ODD_FUNCTIONS, (0, 1), (0, 1)):
            a, b = [first] + pseudo(f, 15), [second] + pseudo(f + 1, 15)
            gates = ((6, 0, 1), (f, 0, 1), (f, 3, 2))
            stream = pseudo(f + 2, 64)
            held = taken([a, b], gates, KEY, stream)
            text = circuit(1, 1, gates, (3, 4))
            got = run(load(text), opening(KEY), give(0, a), give(1, b), feed(stream), label(0), label(1))[5:]
            self.assertEqual(got, label_answers([held[3], held[4]]))
            # All odd functions are alike to the taker: only the table knows which one it is.
            self.assertEqual(held, taken([a, b], ((6, 0, 1), (8, 0, 1), (8, 3, 2)), KEY, stream))

    def test_the_gates_place_counts(self):
        made = []
        for ahead in range(4):
            gates = ((12, 0, 0),) * ahead + ((8, 0, 1),)
            text = circuit(1, 1, gates, (2 + ahead,))
            got = ask(load(text), opening(KEY), *GIVES[:2], feed(STREAM[:32]), label(0))
            self.assertEqual(got[1], said_one(8, ahead, KEY, GIVEN[0], GIVEN[1], STREAM[:32]))
            made.append(got[1])
        for one, other in itertools.combinations(made, 2):
            self.assertNotEqual(plus(one, other), [0] * 16)


if __name__ == "__main__":
    unittest.main()
