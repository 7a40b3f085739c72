"""The maker and the taker together, and any calls in any order."""

import itertools
import random
import unittest

from hushgates.parties import answers
from helper import (
    ODD_FUNCTIONS, TOP, ask, begin, bit, circuit, cut, done, feed, garbling, give, hint, joined, label, labels_of,
    load, match, opening, plain, plus, pseudo, random_circuit, refused, run, settle, shape, tables, tell, told,
)
from words import (
    BEGIN, BIT, DONE, FEED, GIVE, HINT, LABEL, LOAD, MATCH, MIX, NEXT, OPEN, PLAIN, SETTLE, SHAPE, TELL, TOLD, TWICE,
    Words, written,
)


def first_numbers(got):
    return [answer[0] for answer in got]


class TogetherTest(unittest.TestCase):
    """One list of calls makes the garbling, the next one takes it and settles what comes out."""

    def check(self, shape_of, bits, key, seed, pieces_of):
        makers, takers, gates, outputs = shape_of
        text = circuit(makers, takers, gates, outputs)
        count = len(outputs)
        got = run(
            load(text), begin(key, seed), *[tell(i, value) for i, value in enumerate(bits)], tables(TOP),
            *[hint(j) for j in range(count)], plain(bits[:makers], bits[makers:]),
        )
        labels = [answer[1] for answer in got[2:2 + len(bits)]]
        stream = got[2 + len(bits)][1]
        hints = first_numbers(got[3 + len(bits):-1])
        plain_bits = got[-1][2]
        made = self.take(text, key, labels, pieces_of(stream), hints)
        self.assertEqual(first_numbers(made[count:]), plain_bits)
        rows = [answer[1] for answer in made[:count]]
        settled = run(load(text), begin(key, seed), match(stream), *[settle(j, l) for j, l in enumerate(rows)])
        self.assertEqual(settled[2], (1, [], [len(gates), len(stream) // 32]))
        self.assertEqual(first_numbers(settled[3:]), plain_bits)
        d, zeros, _ = garbling(len(bits), gates, key, seed)
        self.assertEqual(rows, labels_of(d, [zeros[wire] for wire in outputs], plain_bits))

    def take(self, text, key, labels, pieces, hints):
        calls = [load(text), opening(key), *[give(i, values) for i, values in enumerate(labels)]]
        calls += [feed(piece) for piece in pieces]
        calls += [label(j) for j in range(len(hints))] + [bit(j, value) for j, value in enumerate(hints)]
        got = run(*calls)
        feeds = got[2 + len(labels):2 + len(labels) + len(pieces)]
        self.assertEqual(feeds[-1][0], 1)
        self.assertEqual([answer[2] for answer in feeds], [[len(piece)] for piece in pieces])
        return got[-2 * len(hints):]

    def whole(self, stream):
        return [stream]

    def test_all_functions_and_bits(self):
        for f, a, b in itertools.product(range(16), (0, 1), (0, 1)):
            for start in range(4):
                key, seed = pseudo(start, 16), pseudo(16 * start + f, 16)
                gates = ((f, 0, 1), (f, 1, 0), (f, 2, 3), (f, 0, 0), (f, 4, 1))
                self.check((1, 1, gates, (2, 3, 4, 5, 6, 0, 1)), [a, b], key, seed, self.whole)

    def test_functions_of_wires_that_never_change(self):
        for f, a in itertools.product(range(16), (0, 1)):
            gates = ((0, 0, 0), (15, 0, 0), (f, 1, 2), (f, 2, 1), (f, 0, 1), (f, 2, 0), (f, 1, 1), (f, 2, 2))
            self.check((0, 1, gates, tuple(range(9))), [a], pseudo(5, 16), pseudo(f, 16), self.whole)

    def test_bits_of_one_alone(self):
        gates = ((8, 0, 1), (7, 1, 2), (6, 3, 4), (13, 5, 0))
        for makers in (0, 3):
            for bits in itertools.product((0, 1), repeat=3):
                self.check((makers, 3 - makers, gates, (6, 5)), list(bits), pseudo(6, 16), pseudo(7, 16), self.whole)

    def test_a_sum_of_two_numbers(self):
        gates = []
        carry = None
        sums = []
        for k in range(4):
            wire = 8 + len(gates)
            gates += [(6, k, 4 + k), (8, k, 4 + k)]
            if carry is not None:
                gates += [(6, wire, carry), (8, wire, carry), (14, wire + 1, wire + 3)]
            sums.append(wire if carry is None else wire + 2)
            carry = wire + 1 if carry is None else wire + 4
        shape_of = (4, 4, tuple(gates), (*sums, carry))
        for left, right in ((0, 0), (15, 15), (9, 7), (5, 10), (1, 15), (12, 3)):
            bits = [left >> k & 1 for k in range(4)] + [right >> k & 1 for k in range(4)]
            got = ask(load(circuit(*shape_of)), plain(bits[:4], bits[4:]))[2]
            self.assertEqual(sum(value << k for k, value in enumerate(got)), left + right)
            key, seed = pseudo(left, 16), pseudo(right + 20, 16)
            self.check(shape_of, bits, key, seed, lambda stream: [stream[:33], stream[33:]])

    def test_many_circuits(self):
        chance = random.Random(71)
        for _ in range(60):
            shape_of = random_circuit(chance)
            bits = [chance.randrange(2) for _ in range(shape_of[0] + shape_of[1])]
            key, seed = list(chance.randbytes(16)), list(chance.randbytes(16))
            self.check(shape_of, bits, key, seed, lambda stream: cut(chance, stream, chance.randint(1, 9)))

    def test_the_largest_circuits(self):
        chance = random.Random(72)
        for functions in (ODD_FUNCTIONS, range(16), (8,), (1, 6), (0, 15, 7)):
            wires = [(chance.randrange(32 + k), chance.randrange(32 + k)) for k in range(32)]
            gates = tuple((chance.choice(functions), a, b) for a, b in wires)
            shape_of = (16, 16, gates, tuple(range(48, 64)))
            for bits in ([0] * 32, [1] * 32, [chance.randrange(2) for _ in range(32)]):
                key, seed = list(chance.randbytes(16)), list(chance.randbytes(16))
                self.check(shape_of, bits, key, seed, lambda stream: cut(chance, stream, 40))

    def test_keys_and_seeds_at_their_bounds(self):
        gates = ((8, 0, 1), (7, 2, 0), (9, 3, 2), (11, 4, 1))
        for key, seed in itertools.product(([0] * 16, [255] * 16, [0] * 15 + [128]), repeat=2):
            self.check((1, 1, gates, (5, 4, 3)), [1, 0], key, seed, self.whole)

    def test_another_seed_is_not_settled(self):
        gates = ((8, 0, 1),)
        text = circuit(1, 1, gates, (2,))
        d, zeros, stream = garbling(2, gates, pseudo(1, 16), pseudo(2, 16))
        made = self.take(text, pseudo(1, 16), labels_of(d, zeros, (1, 1)), stream, [0])[0][1]
        got = run(load(text), begin(pseudo(1, 16), pseudo(3, 16)), tables(TOP), settle(0, made))
        self.assertEqual(got[3], refused(-5))

    def test_one_list_for_both(self):
        """A list that knows the garbling has maker and taker side by side, step by step."""
        gates = ((6, 0, 1), (8, 0, 3), (9, 4, 2), (7, 4, 5), (14, 6, 1))
        key, seed = pseudo(8, 16), pseudo(9, 16)
        d, zeros, stream = garbling(3, gates, key, seed)
        given = labels_of(d, zeros, (1, 0, 1))
        steps = [load(circuit(2, 1, gates, (7,))), begin(key, seed), opening(key)]
        steps += [call for i in range(3) for call in (tell(i, (1, 0, 1)[i]), give(i, given[i]))]
        steps += [call for table in stream for call in (tables(1), feed(table))]
        got = run(*steps, plain([1, 0], [1]), hint(0), label(0))
        self.assertEqual([answer[1] for answer in got[3:9:2]], given)
        self.assertEqual([answer[1] for answer in got[9:15:2]], stream)
        plain_bit, of_hint, made = got[15][2][0], got[16][0], got[17][1]
        last = run(*steps, bit(0, of_hint), settle(0, made), settle(0, plus(made, d)))[-3:]
        self.assertEqual(first_numbers(last), [plain_bit, plain_bit, 1 - plain_bit])


class SideBySideTest(unittest.TestCase):
    """What one party is asked changes nothing for the other."""

    GATES = ((6, 0, 1), (8, 0, 3), (9, 4, 2), (7, 4, 5), (14, 6, 1))
    OTHER_GATES = ((13, 0, 0), (2, 1, 0))
    KEY = pseudo(81, 16)
    SEED = pseudo(82, 16)

    def setUp(self):
        self.text = circuit(2, 1, self.GATES, (7, 5, 0))
        self.other = circuit(0, 1, self.OTHER_GATES, (2, 1))
        d, zeros, stream = garbling(3, self.GATES, self.KEY, self.SEED)
        self.stream = joined(stream)
        self.given = labels_of(d, zeros, (0, 1, 1))
        self.maker_calls = [
            done(), told(0), tell(0, 1), tell(0, 0), tables(1), done(), hint(0), told(0), match(self.stream[32:64]),
            settle(0, self.KEY), match([1]), tables(TOP), hint(0), hint(1), settle(2, self.given[0]), tell(2, 1),
            settle(2, zeros[0]), told(2), done(), tables(1),
        ]
        self.taker_calls = [
            label(0), give(0, self.given[0]), feed(self.stream), give(1, self.given[1]), give(2, self.given[2]),
            bit(0, 0), feed(self.stream[:33]), give(2, self.KEY), label(0), feed([]), feed(self.stream[33:70]),
            feed([0] * 2049), feed(self.stream[70:] + [5]), label(0), label(1), bit(0, 1), label(3), bit(0, 2),
            feed([7]), label(2),
        ]

    def check(self, head, maker_calls, taker_calls):
        alone = [run(*head, *maker_calls)[len(head):], run(*head, *taker_calls)[len(head):]]
        mixed = [call for both in zip(maker_calls, taker_calls) for call in both]
        got = run(*head, *mixed)[len(head):]
        self.assertEqual([got[::2], got[1::2]], alone)
        got = run(*head, *taker_calls, *maker_calls)[len(head):]
        self.assertEqual([got[len(taker_calls):], got[:len(taker_calls)]], alone)

    def test_of_one_circuit(self):
        head = [load(self.text), begin(self.KEY, self.SEED), opening(self.KEY)]
        self.check(head, self.maker_calls, self.taker_calls)

    def test_of_two_circuits(self):
        head = [load(self.text), begin(self.KEY, self.SEED), load(self.other), opening(self.SEED)]
        others = [
            label(0), feed([]), give(0, self.KEY), give(1, self.KEY), feed([1] * 40), give(0, self.KEY), label(0),
            feed([2] * 30), label(0), label(1),
        ]
        self.check(head, self.maker_calls[:10], others)
        head = [load(self.text), opening(self.KEY), load(self.other), begin(self.SEED, self.KEY)]
        self.check(head, self.maker_calls, self.taker_calls)

    def test_a_new_one_of_either(self):
        head = [load(self.text), begin(self.KEY, self.SEED), opening(self.KEY)]
        got = run(*head, *self.taker_calls[:7], begin(self.SEED, self.KEY), feed(self.stream[33:]), label(2))
        self.assertEqual(got[-2:], [(1, [], [63]), (0, self.given[0], [])])
        got = run(*head, tell(0, 1), tables(1), opening(self.SEED), told(0), tell(0, 0), done(), tables(TOP))
        self.assertEqual(got[6:9], [(2, [], []), refused(-4), (3, [], [])])
        self.assertEqual(got[9], (1, self.stream[32:], [5, 2]))

    def test_other_calls_change_neither(self):
        between = [
            shape(), plain([0, 1], [1]), plain([], []), load([]), load([0] * 257), load(self.text), load(self.other),
            begin([], []), opening([]), [0, 16, *self.KEY], [0, 0], [6],
        ]
        head = [load(self.text), begin(self.KEY, self.SEED), opening(self.KEY)]
        alone = run(*head, *self.maker_calls, *self.taker_calls)[3:]
        calls = [call for asked in self.maker_calls + self.taker_calls for call in (asked, *between[:6])]
        self.assertEqual(run(*head, *calls)[3::7], alone)
        calls = [call for asked in self.maker_calls + self.taker_calls for call in (asked, *between[6:])]
        self.assertEqual(run(*head, *calls)[3::7], alone)


class CallMaker:
    """Calls by chance, mostly such as may be asked with what there is."""

    WEIGHTS = {
        TWICE: 1, MIX: 1, 2: 1, 3: 1, 4: 1, LOAD: 3, SHAPE: 1, PLAIN: 3, BEGIN: 4, NEXT: 6, MATCH: 7, TELL: 10, TOLD: 6,
        DONE: 4, HINT: 6, SETTLE: 8, OPEN: 4, GIVE: 34, FEED: 14, LABEL: 8, BIT: 8,
    }

    def __init__(self, chance):
        self.chance = chance
        self.texts = {}
        for k in range(4):
            built = random_circuit(chance, most_bits=(2, 3, 16, 1)[k], most_gates=(6, 4, 32, 0)[k])
            self.texts[tuple(circuit(*built))] = built
        self.words = Words(self.texts)

    def some(self, count):
        return list(self.chance.randbytes(count))

    def sixteens(self, values):
        """Sixteen bytes, but not always."""
        if self.chance.random() < 0.04:
            return self.some(self.chance.choice((0, 1, 15, 17, 32)))
        return values

    def below(self, count):
        """A number below that, but not always."""
        if self.chance.random() < 0.06:
            return self.chance.choice((count, count + 1, 2 ** 63, TOP))
        return self.chance.randrange(count)

    def call(self):
        numbers = list(self.WEIGHTS)
        number = self.chance.choices(numbers, list(self.WEIGHTS.values()))[0]
        if self.words.circuit is None and self.chance.random() < 0.7:
            number = LOAD
        return (number, *self.parts(number))

    def parts(self, number):
        if number <= 4:
            return self.gate_parts(number)
        if number in (LOAD, PLAIN, SHAPE, BEGIN, OPEN):
            return self.circuit_parts(number)
        return self.maker_parts(number) if number <= SETTLE else self.taker_parts(number)

    def gate_parts(self, number):
        rows = [self.sixteens(self.some(16)) for _ in range((1, 3, 4, 4, 3)[number])]
        if number == 4:
            rows.append(self.some(self.chance.choice((32, 32, 32, 31, 33, 0))))
        numbers = [self.below(16), self.chance.choice((0, 5, 2 ** 63 - 1, 2 ** 63, TOP))] if number >= 2 else []
        return numbers, rows

    def circuit_parts(self, number):
        if number == LOAD:
            text = list(self.chance.choice(list(self.texts)))
            way = self.chance.random()
            if way < 0.1:
                text = text[:self.chance.randrange(len(text))]
            elif way < 0.15:
                text = self.some(257)
            return [], [text]
        if number == PLAIN and self.words.circuit is not None:
            c = self.words.circuit
            return [], [[self.below(2) for _ in range(count)] for count in (c.makers, c.takers)]
        count = {PLAIN: 2, SHAPE: 0, BEGIN: 2, OPEN: 1}[number]
        return [], [self.sixteens([7] * 16 if self.chance.random() < 0.5 else self.some(16)) for _ in range(count)]

    def maker_parts(self, number):
        m = self.words.maker
        inputs = m.circuit.inputs if m else 3
        outputs = len(m.circuit.outputs) if m else 3
        if number == NEXT:
            return [self.chance.choice((0, 1, 1, 2, 5, TOP))], []
        if number == MATCH:
            return [], [self.stream_piece(m.tables[m.through:] if m else [])]
        if number == SETTLE:
            j = self.below(outputs)
            values = self.some(16)
            if m and j < outputs and self.chance.random() < 0.8:
                values = self.chance.choice((m.zeros[m.circuit.outputs[j]], plus(m.zeros[m.circuit.outputs[j]], m.d)))
            return [j], [self.sixteens(values)]
        return {TELL: [self.below(inputs), self.below(2)], TOLD: [self.below(inputs)], DONE: [],
                HINT: [self.below(outputs)]}[number], []

    def stream_piece(self, left):
        stream = joined(left[:self.chance.randint(0, 4)])
        way = self.chance.random()
        if stream and way < 0.2:
            stream[self.chance.randrange(len(stream))] ^= 1 << self.chance.randrange(8)
        elif way < 0.3:
            stream = stream + self.some(self.chance.choice((1, 31, 32)))
        elif way < 0.32:
            stream = self.some(2080)
        return stream

    def taker_parts(self, number):
        t, m = self.words.taker, self.words.maker
        outputs = len(t.circuit.outputs) if t else 3
        if number == FEED:
            size = self.chance.choice((0, 1, 31, 32, 33, 64, 100, 1200, 2048))
            return [], [self.some(2049 if self.chance.random() < 0.03 else size)]
        if number == GIVE:
            lacking = [i for i in range(t.circuit.inputs) if i not in t.given] if t else []
            i = lacking[0] if lacking and self.chance.random() < 0.9 else self.below(t.circuit.inputs if t else 3)
            values = self.some(16)
            if m and i < m.circuit.inputs and self.chance.random() < 0.5:
                values = m.zeros[i]
            return [i], [self.sixteens(values)]
        return [self.below(outputs)] + ([self.below(2)] if number == BIT else []), []


class AnyCallsTest(unittest.TestCase):
    def lists(self, seed, count):
        return [CallMaker(random.Random(seed * 1000 + k)) for k in range(count)]

    def one_list(self, maker, most):
        """Calls and what the words give of them, as far as they go into one list."""
        calls, expected, size = [], [], 0
        while len(calls) < most:
            number, numbers, rows = maker.call()
            call = written(number, numbers, rows)
            if size + len(call) > 16000:
                break
            size += len(call)
            calls.append(call)
            expected.append(maker.words.answer(number, numbers, rows))
        return calls, expected

    def test_as_the_words_say(self):
        seen = {}
        for maker in self.lists(91, 60):
            calls, expected = self.one_list(maker, 400)
            got = run(*calls)
            for k, call in enumerate(calls):
                self.assertEqual(got[k], expected[k], (k, call))
                seen.setdefault(call[0], set()).add(min(got[k][0], 3))
        # The lists are of use only if they reach what there is to answer.
        self.assertEqual(seen[TELL], {0, -3, -4, -8})
        self.assertEqual(seen[TOLD], {0, 1, 2, -3, -8})
        self.assertEqual(seen[HINT], {0, 1, -3, -4, -8})
        self.assertEqual(seen[SETTLE], {0, 1, -1, -3, -4, -5, -8})
        self.assertEqual(seen[OPEN], {0, -1, -8})
        self.assertEqual(seen[GIVE], {0, -1, -3, -4, -8})
        self.assertEqual(seen[FEED], {0, 1, -2, -4, -8})
        self.assertEqual(seen[LABEL], {0, -3, -4, -8})
        self.assertEqual(seen[BIT], {0, 1, -3, -4, -8})
        self.assertEqual(seen[MATCH], {0, 1, 2, -1, -2, -8})

    def test_what_is_refused_changes_nothing(self):
        """Without its refused calls a list answers just the same."""
        for maker in self.lists(92, 25):
            calls, expected = self.one_list(maker, 250)
            kept = [k for k, answer in enumerate(expected) if answer[0] >= 0]
            if kept:
                self.assertEqual(run(*[calls[k] for k in kept]), [expected[k] for k in kept])

    def test_what_only_asks_changes_nothing(self):
        asking = (TWICE, MIX, 2, 3, 4, SHAPE, PLAIN, TOLD, DONE, HINT, SETTLE, LABEL, BIT)
        for maker in self.lists(93, 25):
            calls, expected = self.one_list(maker, 250)
            kept = [k for k, call in enumerate(calls) if call[0] not in asking]
            self.assertEqual(run(*[calls[k] for k in kept]), [expected[k] for k in kept])

    def test_a_second_list_is_answered_as_if_it_were_the_first(self):
        flat = []
        for maker in self.lists(94, 8):
            calls, _ = self.one_list(maker, 150)
            flat.append([number for call in calls for number in call])
        first = [answers(calls) for calls in flat]
        self.assertEqual([answers(calls) for calls in reversed(flat)], first[::-1])
        for calls, told_first in zip(flat, first):
            self.assertEqual(answers(calls), told_first)
            self.assertEqual(answers(calls), told_first)


if __name__ == "__main__":
    unittest.main()
