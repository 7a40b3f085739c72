"""answers(): the form of what goes in and comes out, and what is kept."""

import pathlib
import subprocess
import sys
import unittest

from hushgates.parties import answers
from helper import (
    ask, begin, circuit, garbling, joined, load, match, mix, one, plain, pseudo, refused, run, shape, sixteen, table,
    tables, twice, zero,
)

KEY = pseudo(31, 16)
SEED = pseudo(32, 16)
GATES = ((8, 0, 1), (6, 2, 0), (7, 3, 1))
TEXT = circuit(1, 1, GATES, (4,))
STREAM = joined(garbling(2, GATES, KEY, SEED)[2])


class FormTest(unittest.TestCase):
    def test_as_they_are_handed_back(self):
        self.assertEqual(answers([0, 16] + [255] * 16), [19, 0, 16, 121] + [255] * 15 + [0])
        self.assertEqual(answers([0, 0, 6]), [3, -1, 0, 0, 3, -8, 0, 0])
        self.assertEqual(answers([5, 0]), [4, -6, 0, 1, 0])

    def test_shape_and_load(self):
        self.assertEqual(answers(load(TEXT) + shape()), [3, 0, 0, 0, 8, 0, 0, 5, 1, 1, 3, 1, 2])
        self.assertEqual(answers([5, 257] + [0] * 257), [3, -2, 0, 0])

    def test_plain(self):
        self.assertEqual(answers(load(TEXT) + plain([1], [1])), [3, 0, 0, 0, 4, 0, 0, 1, 1])

    def test_next_and_match(self):
        told = answers(load(TEXT) + begin(KEY, SEED) + tables(1) + match(STREAM[32:]))
        self.assertEqual(told, [3, 0, 0, 0, 3, 0, 0, 0, 37, 0, 32] + STREAM[:32] + [2, 2, 1, 5, 1, 0, 2, 3, 1])

    def test_gates(self):
        rows = [[1] * 16, [2] * 16, [3] * 16]
        self.assertEqual(answers(table(6, 0, *rows, [5] * 16)), [35, 0, 32] + [0] * 32 + [0])
        self.assertEqual(answers(zero(6, 0, *rows, [5] * 16)), [19, 0, 16] + [1] * 16 + [0])
        self.assertEqual(answers(one(6, 0, *rows, [5] * 32)), [19, 0, 16] + [1] * 16 + [0])
        self.assertEqual(answers(table(16, 0, *rows, [5] * 16)), [3, -1, 0, 0])

    def test_each_call_ends_where_it_says(self):
        told = run(
            twice([1] * 3), mix(KEY, [2] * 17, []), table(1, 2, [], [3], [4] * 2, [5] * 3), twice(sixteen(1)),
            zero(1, 2, [6], [], [], [7]), one(1, 2, [8], [9], [], []), load([6, 6]), shape(), plain([6], [7, 8]),
            begin([9], []), tables(6), match([6, 7]), twice(sixteen(2)),
        )
        self.assertEqual([answer[0] for answer in told], [-1, -1, -1, 0, -1, -1, -6, -8, -8, -8, -8, -8, 0])
        self.assertEqual(told[12][1], sixteen(4))


class OrderOfRefusalsTest(unittest.TestCase):
    def test_nothing_there_goes_before_all_else(self):
        for call in (shape(), plain([9], []), begin([], []), tables(0), match([1] * 33), match([1] * 2049)):
            self.assertEqual(ask(call), refused(-8))
        for call in (tables(0), match([1] * 33), match([1] * 2049)):
            self.assertEqual(ask(load(TEXT), call), refused(-8))

    def test_sixteen_goes_next(self):
        self.assertEqual(ask(load(TEXT), begin([], [])), refused(-1))

    def test_length_before_the_rest(self):
        self.assertEqual(ask(load([0] * 300)), refused(-2))
        self.assertEqual(ask(load(TEXT), begin(KEY, SEED), match([0] * 2049)), refused(-2))

    def test_refusals_change_nothing(self):
        wrong = (
            twice([]), mix([], [], []), table(16, 0, KEY, KEY, KEY, KEY), zero(0, 0, [], KEY, KEY, KEY),
            one(0, 0, KEY, KEY, KEY, []), load([]), load([0] * 257), plain([], []), plain([2], [0]),
            begin([], SEED), match([0]), match([0] * 2080),
        )
        for call in wrong:
            told = run(load(TEXT), call, begin(KEY, SEED), call, tables(1), call, shape(), call, match(STREAM[32:]))
            self.assertTrue(all(told[k][0] < 0 for k in (1, 3, 5, 7)))
            self.assertEqual([told[5], told[7]], [told[3]] * 2)
            self.assertEqual(told[4], (0, STREAM[:32], [2, 1]))
            self.assertEqual(told[6], (0, [], [1, 1, 3, 1, 2]))
            self.assertEqual(told[8], (1, [], [3, 1]))


class SizeTest(unittest.TestCase):
    def test_four_hundred_calls(self):
        told = run(*[shape()] * 400)
        self.assertEqual(told, [refused(-8)] * 400)
        rounds = (begin(KEY, SEED), tables(1), match(STREAM[32:]))
        told = run(load(TEXT), *rounds * 133)
        self.assertEqual(told[1:], [(0, [], []), (0, STREAM[:32], [2, 1]), (1, [], [3, 1])] * 133)

    def test_sixteen_thousand_numbers(self):
        for call in (twice([1] * 15998), load([1] * 15998), [7, 7999] + [1] * 7999 + [7998] + [1] * 7998):
            self.assertEqual(len(call), 16000)
            self.assertIn(ask(call), (refused(-1), refused(-2), refused(-8)))
        calls = [twice(sixteen(k)) for k in range(399)]
        left = 16000 - 399 * 18 - 2
        told = run(*calls, load([0] * left))
        self.assertEqual(told[:399], [(0, sixteen(2 * k), []) for k in range(399)])
        self.assertEqual(told[399], refused(-2))

    def test_sixteen_thousand_numbers_at_a_maker(self):
        head = load(TEXT) + begin(KEY, SEED)
        left = 16000 - len(head) - 2
        self.assertEqual(ask(load(TEXT), begin(KEY, SEED), match([1] * left)), refused(-2))


class NothingKeptTest(unittest.TestCase):
    def test_each_time_is_the_first(self):
        calls = load(TEXT) + begin(KEY, SEED) + tables(1)
        first = answers(calls)
        self.assertEqual(answers(calls), first)
        self.assertEqual(answers(shape()), [3, -8, 0, 0])
        self.assertEqual(answers(tables(1)), [3, -8, 0, 0])

    def test_the_list_handed_in_stays(self):
        calls = load(TEXT) + begin(KEY, SEED) + match(STREAM) + plain([1], [0]) + twice([1] * 16) + load([])
        before = list(calls)
        told = answers(calls)
        self.assertEqual(calls, before)
        told.append(1)
        told[0] = 99
        self.assertEqual(calls, before)
        self.assertEqual(answers(calls)[0], 3)

    def test_it_prints_and_imports_nothing(self):
        script = (
            "import sys; before = set(sys.modules); from hushgates.parties import answers; answers([6]); "
            "new = set(sys.modules) - before; "
            "sys.exit(0 if all(name.split('.')[0] == 'hushgates' for name in new) else 1)"
        )
        top = pathlib.Path(__file__).resolve().parent.parent
        done = subprocess.run([sys.executable, "-B", "-c", script], cwd=top, capture_output=True)
        self.assertEqual((done.returncode, done.stdout, done.stderr), (0, b"", b""))


if __name__ == "__main__":
    unittest.main()
