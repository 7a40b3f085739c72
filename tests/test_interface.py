"""answers(): the form of what goes in and comes out, and what is kept."""

import pathlib
import subprocess
import sys
import unittest

from hushgates.parties import answers
from helper import (
    TOP, ask, begin, bit, circuit, done, feed, garbling, give, hint, joined, label, labels_of, load, match, mix, one,
    opening, plain, pseudo, refused, run, settle, shape, sixteen, table, tables, taken, tell, told, twice, zero,
)

KEY = pseudo(31, 16)
SEED = pseudo(32, 16)
GATES = ((8, 0, 1), (6, 2, 0), (7, 3, 1))
TEXT = circuit(1, 1, GATES, (4,))
D, ZEROS, TABLES = garbling(2, GATES, KEY, SEED)
STREAM = joined(TABLES)
GIVEN = labels_of(D, ZEROS, (1, 1))
MADE = taken(GIVEN, GATES, KEY, STREAM)[4]
BOTH = (load(TEXT), begin(KEY, SEED), opening(KEY))


class FormTest(unittest.TestCase):
    def test_as_they_are_handed_back(self):
        self.assertEqual(answers([0, 16] + [255] * 16), [19, 0, 16, 121] + [255] * 15 + [0])
        self.assertEqual(answers([0, 0, 6]), [3, -1, 0, 0, 3, -8, 0, 0])
        self.assertEqual(answers([5, 0]), [4, -6, 0, 1, 0])

    def test_shape_and_load(self):
        self.assertEqual(answers(load(TEXT) + shape()), [3, 0, 0, 0, 8, 0, 0, 5, 1, 1, 3, 1, 2])
        self.assertEqual(answers([5, 257] + [0] * 257), [3, -2, 0, 0])

    def test_plain(self):
        self.assertEqual(answers(load(TEXT) + plain([1], [1])), [3, 0, 0, 0, 4, 0, 0, 1, 1])

    def test_next_and_match(self):
        told = answers(load(TEXT) + begin(KEY, SEED) + tables(1) + match(STREAM[32:]))
        self.assertEqual(told, [3, 0, 0, 0, 3, 0, 0, 0, 37, 0, 32] + STREAM[:32] + [2, 2, 1, 5, 1, 0, 2, 3, 1])

    def test_gates(self):
        rows = [[1] * 16, [2] * 16, [3] * 16]
        self.assertEqual(answers(table(6, 0, *rows, [5] * 16)), [35, 0, 32] + [0] * 32 + [0])
        self.assertEqual(answers(zero(6, 0, *rows, [5] * 16)), [19, 0, 16] + [1] * 16 + [0])
        self.assertEqual(answers(one(6, 0, *rows, [5] * 32)), [19, 0, 16] + [1] * 16 + [0])
        self.assertEqual(answers(table(16, 0, *rows, [5] * 16)), [3, -1, 0, 0])

    def test_tell_to_settle(self):
        calls = load(TEXT) + begin(KEY, SEED) + tell(1, 0) + told(1) + told(0) + tell(1, 1) + done() + hint(0)
        head = [3, 0, 0, 0] * 2
        middle = [19, 0, 16] + ZEROS[1] + [0] + [3, 1, 0, 0, 3, 0, 0, 0, 3, -4, 0, 0, 3, 0, 0, 0, 3, -4, 0, 0]
        self.assertEqual(answers(calls), head + middle)
        calls += tables(2) + done() + hint(0) + settle(0, ZEROS[4]) + settle(0, KEY) + settle(1, KEY) + told(2)
        tail = [69, 1, 64] + STREAM + [2, 3, 2] + [3, 3, 0, 0, 3, ZEROS[4][0] & 1, 0, 0, 3, 0, 0, 0]
        self.assertEqual(answers(calls), head + middle + tail + [3, -5, 0, 0, 3, -3, 0, 0, 3, -3, 0, 0])

    def test_open_to_bit(self):
        calls = load(TEXT) + opening(KEY) + feed([]) + give(0, GIVEN[0]) + give(1, GIVEN[1]) + feed(STREAM[:40])
        calls += label(0) + feed(STREAM[40:] + [1, 2]) + give(1, KEY) + label(0) + bit(0, 1) + label(1) + bit(0, 2)
        expected = [3, 0, 0, 0] * 2 + [3, -4, 0, 0] + [3, 0, 0, 0] * 2 + [4, 0, 0, 1, 40] + [3, -4, 0, 0]
        expected += [4, 1, 0, 1, 24, 3, -4, 0, 0, 19, 0, 16] + MADE + [0] + [3, MADE[0] & 1 ^ 1, 0, 0]
        self.assertEqual(answers(calls), expected + [3, -3, 0, 0] * 2)

    def test_each_call_ends_where_it_says(self):
        told = run(
            twice([1] * 3), mix(KEY, [2] * 17, []), table(1, 2, [], [3], [4] * 2, [5] * 3), twice(sixteen(1)),
            zero(1, 2, [6], [], [], [7]), one(1, 2, [8], [9], [], []), load([6, 6]), shape(), plain([6], [7, 8]),
            begin([9], []), tables(6), match([6, 7]), twice(sixteen(2)),
        )
        self.assertEqual([answer[0] for answer in told], [-1, -1, -1, 0, -1, -1, -6, -8, -8, -8, -8, -8, 0])
        self.assertEqual(told[12][1], sixteen(4))

    def test_each_later_call_ends_where_it_says(self):
        calls = (
            tell(6, 6), told(6), done(), hint(6), settle(6, [6, 7]), opening([6]), give(6, [6, 6, 6]), feed([6, 6]),
            label(6), bit(6, 6), settle(6, []), opening([]), give(6, []), feed([]),
        )
        got = run(*[asked for call in calls for asked in (call, twice(sixteen(5)))])
        self.assertEqual(got, [refused(-8), (0, sixteen(10), [])] * len(calls))


class OrderOfRefusalsTest(unittest.TestCase):
    OF_CIRCUIT = (
        shape(), plain([1], [1]), plain([9], []), begin(KEY, SEED), begin([], []), opening(KEY), opening([]),
        opening([1] * 17),
    )
    OF_MAKER = (
        tables(0), tables(TOP), match([]), match([1] * 33), match([1] * 2049), tell(0, 0), tell(9, 0), tell(0, 2),
        told(0), told(TOP), done(), hint(0), hint(9), settle(0, KEY), settle(9, KEY), settle(0, []), settle(9, [1]),
    )
    OF_TAKER = (
        give(0, KEY), give(9, KEY), give(0, []), give(9, [1] * 17), feed([]), feed(STREAM), feed([1] * 2049), label(0),
        label(9), bit(0, 0), bit(9, 0), bit(0, 2),
    )

    def test_nothing_there_goes_before_all_else_for_every_call(self):
        empty = run(*self.OF_CIRCUIT, *self.OF_MAKER, *self.OF_TAKER)
        self.assertEqual(set(map(str, empty)), {str(refused(-8))})
        for head in ((load([]),), (load(TEXT[:-1]),), (load([0] * 257),), (begin(KEY, SEED),), (opening(KEY),)):
            for call in self.OF_CIRCUIT + self.OF_MAKER + self.OF_TAKER:
                self.assertEqual(ask(*head, call), refused(-8))

    def test_a_circuit_is_neither_maker_nor_taker(self):
        for call in self.OF_MAKER + self.OF_TAKER:
            for head in ((), (begin([], SEED),), (begin(KEY, []),), (opening([]),)):
                self.assertEqual(ask(load(TEXT), *head, call), refused(-8))
        for call in self.OF_TAKER:
            self.assertEqual(ask(load(TEXT), begin(KEY, SEED), tell(0, 0), tables(TOP), call), refused(-8))
        for call in self.OF_MAKER:
            self.assertEqual(ask(load(TEXT), opening(KEY), give(0, KEY), give(1, KEY), feed(STREAM), call), refused(-8))

    def test_sixteen_goes_ahead_of_each_calls_own(self):
        for size in (0, 1, 15, 17, 32):
            wrong = [1] * size
            for call in (settle(0, wrong), settle(9, wrong), give(0, wrong), give(9, wrong), opening(wrong)):
                self.assertEqual(ask(*BOTH, call), refused(-1))
                steps = (give(0, KEY), give(1, KEY), feed([]), tables(TOP))
                self.assertEqual(ask(*BOTH, *steps, call), refused(-1))

    def test_of_each_call(self):
        gives = (give(0, GIVEN[0]), give(1, GIVEN[1]))
        for steps, call, number in (
            ((tell(0, 0),), tell(0, 2), -3), ((tell(0, 0),), tell(0, 1), -4), ((), tell(2, 2), -3),
            ((), hint(1), -3), ((), hint(0), -4), ((), settle(1, KEY), -3), ((), settle(0, KEY), -4),
            ((tables(9),), settle(1, KEY), -3), ((tables(9),), settle(0, KEY), -5),
            ((*gives, feed([])), give(2, KEY), -3), ((*gives, feed([])), give(0, KEY), -4),
            ((), feed([0] * 2049), -2), ((), feed([0] * 2048), -4), ((), label(1), -3), ((), label(0), -4),
            ((), bit(1, 0), -3), ((), bit(0, 2), -3), ((), bit(1, 2), -3), ((), bit(0, 1), -4),
        ):
            self.assertEqual(ask(*BOTH, *steps, call), refused(number), call)

    def test_no_refusal_changes_anything(self):
        wrong = (
            tell(0, 0), tell(0, 2), tell(2, 1), told(2), hint(1), settle(1, KEY), settle(0, []), settle(0, KEY),
            opening([]), opening([1] * 17), give(2, KEY), give(0, []), feed([0] * 2049), label(1), bit(1, 0),
            bit(0, 2), begin([], SEED), match([1]), match([1] * 2080), load([]), load([1] * 257), plain([], []),
        )
        steps = (
            tell(0, 1), give(0, GIVEN[0]), tables(1), give(1, GIVEN[1]), feed(STREAM[:40]), tables(1),
            feed(STREAM[40:]), told(0), told(1), done(), hint(0), settle(0, MADE), label(0), bit(0, 0), tell(1, 1),
            feed([1]), shape(),
        )
        alone = run(*BOTH, *steps)[3:]
        for call in wrong:
            got = run(*BOTH, *[asked for step in steps for asked in (step, call)])[3:]
            self.assertEqual(got[::2], alone)
            self.assertTrue(all(answer[0] < 0 and answer[1:] in (([], []), ([], [0])) for answer in got[1::2]), call)

    def test_nothing_there_goes_before_all_else(self):
        for call in (shape(), plain([9], []), begin([], []), tables(0), match([1] * 33), match([1] * 2049)):
            self.assertEqual(ask(call), refused(-8))
        for call in (tables(0), match([1] * 33), match([1] * 2049)):
            self.assertEqual(ask(load(TEXT), call), refused(-8))

    def test_sixteen_goes_next(self):
        self.assertEqual(ask(load(TEXT), begin([], [])), refused(-1))

    def test_length_before_the_rest(self):
        self.assertEqual(ask(load([0] * 300)), refused(-2))
        self.assertEqual(ask(load(TEXT), begin(KEY, SEED), match([0] * 2049)), refused(-2))

    def test_refusals_change_nothing(self):
        wrong = (
            twice([]), mix([], [], []), table(16, 0, KEY, KEY, KEY, KEY), zero(0, 0, [], KEY, KEY, KEY),
            one(0, 0, KEY, KEY, KEY, []), load([]), load([0] * 257), plain([], []), plain([2], [0]),
            begin([], SEED), match([0]), match([0] * 2080),
        )
        for call in wrong:
            told = run(load(TEXT), call, begin(KEY, SEED), call, tables(1), call, shape(), call, match(STREAM[32:]))
            self.assertTrue(all(told[k][0] < 0 for k in (1, 3, 5, 7)))
            self.assertEqual([told[5], told[7]], [told[3]] * 2)
            self.assertEqual(told[4], (0, STREAM[:32], [2, 1]))
            self.assertEqual(told[6], (0, [], [1, 1, 3, 1, 2]))
            self.assertEqual(told[8], (1, [], [3, 1]))


class SizeTest(unittest.TestCase):
    def test_four_hundred_calls(self):
        told = run(*[shape()] * 400)
        self.assertEqual(told, [refused(-8)] * 400)
        rounds = (begin(KEY, SEED), tables(1), match(STREAM[32:]))
        told = run(load(TEXT), *rounds * 133)
        self.assertEqual(told[1:], [(0, [], []), (0, STREAM[:32], [2, 1]), (1, [], [3, 1])] * 133)

    def test_sixteen_thousand_numbers(self):
        for call in (twice([1] * 15998), load([1] * 15998), [7, 7999] + [1] * 7999 + [7998] + [1] * 7998):
            self.assertEqual(len(call), 16000)
            self.assertIn(ask(call), (refused(-1), refused(-2), refused(-8)))
        calls = [twice(sixteen(k)) for k in range(399)]
        left = 16000 - 399 * 18 - 2
        told = run(*calls, load([0] * left))
        self.assertEqual(told[:399], [(0, sixteen(2 * k), []) for k in range(399)])
        self.assertEqual(told[399], refused(-2))

    def test_sixteen_thousand_numbers_at_a_maker(self):
        head = load(TEXT) + begin(KEY, SEED)
        left = 16000 - len(head) - 2
        self.assertEqual(ask(load(TEXT), begin(KEY, SEED), match([1] * left)), refused(-2))


    def test_four_hundred_calls_of_both(self):
        gives = (give(0, GIVEN[0]), give(1, GIVEN[1]))
        rounds = (opening(KEY), *gives, feed(STREAM[:33]), feed(STREAM[33:]), label(0), tell(0, 1), done())
        got = run(load(TEXT), begin(KEY, SEED), *rounds * 49, *[told(k % 3) for k in range(6)])
        self.assertEqual(len(got), 400)
        expected = [(0, [], [])] * 3 + [(0, [], [33]), (1, [], [31]), (0, MADE, []), (0, GIVEN[0], []), (0, [], [])]
        self.assertEqual(got[2:394], expected * 49)
        self.assertEqual(got[394:], [(2, [], []), (0, [], []), refused(-3)] * 2)

    def test_sixteen_thousand_numbers_at_both(self):
        head = (*BOTH, give(0, GIVEN[0]), give(1, GIVEN[1]))
        longest = [feed(STREAM + [9] * (2048 - len(STREAM)))] * 7
        left = 16000 - sum(map(len, head)) - sum(map(len, longest)) - len(label(0))
        got = run(*head, *longest, feed([9] * (left - 2)), label(0))
        self.assertEqual(got[5:], [(1, [], [64])] + [(1, [], [0])] * 7 + [(0, MADE, [])])
        for call in (settle, give, opening, feed):
            few = call([]) if call in (opening, feed) else call(0, [])
            rest = 16000 - sum(map(len, head)) - len(few)
            calls = call([1] * rest) if call in (opening, feed) else call(0, [1] * rest)
            self.assertEqual(sum(map(len, head)) + len(calls), 16000)
            self.assertEqual(ask(*head, calls), refused(-2 if call == feed else -1))


class NothingKeptTest(unittest.TestCase):
    def test_neither_party_is_kept(self):
        gives = give(0, GIVEN[0]) + give(1, GIVEN[1])
        calls = joined(BOTH) + gives + tell(0, 1) + tables(TOP) + feed(STREAM[:40]) + feed(STREAM[40:]) + label(0)
        before = list(calls)
        first = answers(calls)
        for after in (told(0), done(), hint(0), feed([]), label(0), bit(0, 0), give(0, KEY), opening(KEY)):
            self.assertEqual(answers(after), [3, -8, 0, 0])
        again = answers(joined(BOTH) + told(0) + tell(0, 0) + label(0))
        self.assertEqual(again[12:], [3, 0, 0, 0, 19, 0, 16] + ZEROS[0] + [0, 3, -4, 0, 0])
        self.assertEqual(answers(calls), first)
        self.assertEqual(calls, before)

    def test_each_time_is_the_first(self):
        calls = load(TEXT) + begin(KEY, SEED) + tables(1)
        first = answers(calls)
        self.assertEqual(answers(calls), first)
        self.assertEqual(answers(shape()), [3, -8, 0, 0])
        self.assertEqual(answers(tables(1)), [3, -8, 0, 0])

    def test_the_list_handed_in_stays(self):
        calls = load(TEXT) + begin(KEY, SEED) + match(STREAM) + plain([1], [0]) + twice([1] * 16) + load([])
        before = list(calls)
        told = answers(calls)
        self.assertEqual(calls, before)
        told.append(1)
        told[0] = 99
        self.assertEqual(calls, before)
        self.assertEqual(answers(calls)[0], 3)

    def test_it_prints_and_imports_nothing(self):
        script = (
            "import sys; before = set(sys.modules); from hushgates.parties import answers; answers([6]); "
            "new = set(sys.modules) - before; "
            "sys.exit(0 if all(name.split('.')[0] == 'hushgates' for name in new) else 1)"
        )
        top = pathlib.Path(__file__).resolve().parent.parent
        done = subprocess.run([sys.executable, "-B", "-c", script], cwd=top, capture_output=True)
        self.assertEqual((done.returncode, done.stdout, done.stderr), (0, b"", b""))


if __name__ == "__main__":
    unittest.main()
