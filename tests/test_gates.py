"""table, zero and one."""

import unittest

from helper import (
    EVEN_FUNCTIONS, ODD_FUNCTIONS, TOP, ask, one, plus, pseudo, refused, run, said_one, said_table, said_zero,
    sixteen, table, value, when, wide, zero,
)

KEY = pseudo(77, 16)
GATES = (0, 1, 5, 2 ** 63 - 1, 2 ** 63, TOP)


def coloured(start, colour):
    """A label of this colour."""
    label = pseudo(start, 16)
    return [label[0] & 254 | colour] + label[1:]


def settings():
    """Every colour of a, b and every bit 0 of d."""
    return [
        (coloured(11, p), coloured(12, q), coloured(13, r))
        for p in (0, 1) for q in (0, 1) for r in (0, 1)
    ]


class TableTest(unittest.TestCase):
    def test_all_functions_and_colours(self):
        for f in range(16):
            for a, b, d in settings():
                for g in GATES:
                    with self.subTest(f=f, g=g, a=a[0], b=b[0], d=d[0]):
                        self.assertEqual(ask(table(f, g, KEY, a, b, d)), (0, said_table(f, g, KEY, a, b, d), []))

    def test_even_ones_are_zero_bytes(self):
        for f in EVEN_FUNCTIONS:
            for a, b, d in settings():
                self.assertEqual(ask(table(f, 3, KEY, a, b, d)), (0, [0] * 32, []))

    def test_tweaks_are_modulo_two_to_the_64(self):
        a, b, d = coloured(1, 0), coloured(2, 1), coloured(3, 1)
        for f in ODD_FUNCTIONS:
            self.assertEqual(ask(table(f, 2 ** 63, KEY, a, b, d)), ask(table(f, 0, KEY, a, b, d)))
            self.assertEqual(ask(table(f, TOP, KEY, a, b, d)), ask(table(f, 2 ** 63 - 1, KEY, a, b, d)))
            self.assertNotEqual(ask(table(f, 1, KEY, a, b, d)), ask(table(f, 0, KEY, a, b, d)))

    def test_no_difference(self):
        a, b = coloured(1, 1), coloured(2, 1)
        for f in ODD_FUNCTIONS:
            self.assertEqual(ask(table(f, 9, KEY, a, b, [0] * 16)), (0, [0] * 16 + a, []))


class ZeroTest(unittest.TestCase):
    def test_all_functions_and_colours(self):
        for f in range(16):
            for a, b, d in settings():
                for g in GATES:
                    with self.subTest(f=f, g=g, a=a[0], b=b[0], d=d[0]):
                        self.assertEqual(ask(zero(f, g, KEY, a, b, d)), (0, said_zero(f, g, KEY, a, b, d), []))

    def test_even_ones_as_the_document_lists_them(self):
        a, b, d = pseudo(1, 16), pseudo(2, 16), pseudo(3, 16)
        listed = {
            0: [0] * 16, 15: d, 12: a, 3: plus(a, d), 10: b, 5: plus(b, d), 6: plus(a, b), 9: plus(a, b, d),
        }
        for f in listed:
            self.assertEqual(ask(zero(f, 4, KEY, a, b, d)), (0, listed[f], []))


class OneTest(unittest.TestCase):
    def test_any_labels_and_table(self):
        for f in range(16):
            for a, b, _ in settings():
                for g in GATES:
                    t = pseudo(f + g % 7, 32)
                    with self.subTest(f=f, g=g, a=a[0], b=b[0]):
                        self.assertEqual(ask(one(f, g, KEY, a, b, t)), (0, said_one(f, g, KEY, a, b, t), []))

    def test_even_ones_do_not_look_at_the_table(self):
        a, b = pseudo(1, 16), pseudo(2, 16)
        for f in EVEN_FUNCTIONS:
            for t in ([0] * 32, [255] * 32, pseudo(5, 32)):
                self.assertEqual(ask(one(f, 1, KEY, a, b, t)), (0, said_one(f, 1, KEY, a, b, [0] * 32), []))

    def test_the_table_counts_by_colour_alone(self):
        for f in ODD_FUNCTIONS:
            a, b = coloured(1, 0), coloured(2, 0)
            self.assertEqual(ask(one(f, 1, KEY, a, b, [0] * 32)), ask(one(f, 1, KEY, a, b, [255] * 32)))
            a = coloured(1, 1)
            self.assertEqual(ask(one(f, 1, KEY, a, b, [0] * 32)), ask(one(f, 1, KEY, a, b, [0] * 16 + [255] * 16)))
            self.assertNotEqual(ask(one(f, 1, KEY, a, b, [0] * 32)), ask(one(f, 1, KEY, a, b, [1] + [0] * 31)))

    def test_the_taker_comes_to_the_label_of_the_value(self):
        for f in range(16):
            for a, b, d in settings():
                if d[0] & 1 == 0:
                    continue
                for g in GATES:
                    made = run(table(f, g, KEY, a, b, d), zero(f, g, KEY, a, b, d))
                    self.check_rows(f, g, (a, b, d), made[0][1], made[1][1])

    def check_rows(self, f, g, labels, told, nought):
        a, b, d = labels
        for s in (0, 1):
            for t in (0, 1):
                taken = ask(one(f, g, KEY, plus(a, when(s, d)), plus(b, when(t, d)), told))
                self.assertEqual(taken, (0, plus(nought, when(value(f, s, t), d)), []), (f, g, s, t))


class GateRefusalTest(unittest.TestCase):
    def test_function_above_fifteen(self):
        fit = [[1] * 16] * 4
        for f in (16, 17, 255, 256, 2 ** 63, TOP):
            self.assertEqual(ask(table(f, 0, *fit)), refused(-1))
            self.assertEqual(ask(zero(f, 0, *fit)), refused(-1))
            self.assertEqual(ask(one(f, 0, *fit[:3], [1] * 32)), refused(-1))

    def test_rows_of_other_than_sixteen(self):
        for f in range(16):
            for size in (0, 1, 15, 17, 32):
                for place in range(4):
                    rows = [[1] * 16, [2] * 16, [3] * 16, [4] * 16]
                    rows[place] = [5] * size
                    self.assertEqual(ask(table(f, 2, *rows)), refused(-1))
                    self.assertEqual(ask(zero(f, 2, *rows)), refused(-1))

    def test_one_with_other_rows(self):
        for f in range(16):
            for size in (0, 1, 15, 17, 32):
                for place in range(3):
                    rows = [[1] * 16, [2] * 16, [3] * 16, [4] * 32]
                    rows[place] = [5] * size
                    self.assertEqual(ask(one(f, 2, *rows)), refused(-1))
            for size in (0, 1, 16, 31, 33, 64):
                self.assertEqual(ask(one(f, 2, [1] * 16, [2] * 16, [3] * 16, [4] * size)), refused(-1))

    def test_labels_at_their_bounds(self):
        low, high = [0] * 16, [255] * 16
        for f in range(16):
            for a in (low, high):
                for b in (low, high):
                    for d in (low, high, sixteen(1)):
                        self.assertEqual(ask(table(f, 0, low, a, b, d)), (0, said_table(f, 0, low, a, b, d), []))
                        self.assertEqual(ask(zero(f, 0, high, a, b, d)), (0, said_zero(f, 0, high, a, b, d), []))
                        self.assertLess(wide(ask(zero(f, 0, high, a, b, d))[1]), 2 ** 128)


if __name__ == "__main__":
    unittest.main()
