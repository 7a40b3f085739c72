"""twice, AES-128 and mix."""

import unittest

from hushgates.cipher import DOUBLED, S_BOX, encrypt, schedule_of
from hushgates.wide import number_of, row_of
from helper import (
    BOX, aes, ask, mix, plus, pseudo, refused, run, said_mix, said_twice, sixteen, times, twice, unhex, wide,
)

NOTHING = [0] * 16

# FIPS 197: the cipher example of appendix B, and appendix C.1.
FIPS_EXAMPLES = (
    ("2b7e151628aed2a6abf7158809cf4f3c", "3243f6a8885a308d313198a2e0370734", "3925841d02dc09fbdc118597196a0b32"),
    ("000102030405060708090a0b0c0d0e0f", "00112233445566778899aabbccddeeff", "69c4e0d86a7b0430d8cdb78070b4c55a"),
)


class TwiceTest(unittest.TestCase):
    def test_without_the_highest_bit(self):
        self.assertEqual(ask(twice(sixteen(1))), (0, sixteen(2), []))
        self.assertEqual(ask(twice(NOTHING)), (0, NOTHING, []))
        self.assertEqual(ask(twice(sixteen(2 ** 127 - 1))), (0, sixteen(2 ** 128 - 2), []))

    def test_a_bit_goes_from_byte_to_byte(self):
        for k in range(127):
            self.assertEqual(ask(twice(sixteen(1 << k))), (0, sixteen(1 << k + 1), []))

    def test_with_the_highest_bit(self):
        self.assertEqual(ask(twice(sixteen(2 ** 127))), (0, sixteen(135), []))
        self.assertEqual(ask(twice([255] * 16)), (0, [121] + [255] * 15, []))
        self.assertEqual(ask(twice([0] * 15 + [129])), (0, [135] + [0] * 14 + [2], []))

    def test_many(self):
        for start in range(40):
            x = pseudo(start, 16)
            self.assertEqual(ask(twice(x)), (0, said_twice(x), []))

    def test_other_than_sixteen(self):
        for size in (0, 1, 15, 17, 32, 256):
            self.assertEqual(ask(twice([7] * size)), refused(-1))


class AesTest(unittest.TestCase):
    def test_fips_examples(self):
        for key, block, cipher in FIPS_EXAMPLES:
            self.assertEqual(row_of(encrypt(schedule_of(unhex(key)), number_of(unhex(block)))), unhex(cipher))
            self.assertEqual(aes(unhex(key), unhex(block)), unhex(cipher))

    def test_fips_examples_through_mix(self):
        for key, block, cipher in FIPS_EXAMPLES:
            told = ask(mix(unhex(key), NOTHING, unhex(block)))[1]
            self.assertEqual(plus(told, unhex(block)), unhex(cipher))

    def test_fips_key_expansion(self):
        schedule = schedule_of(unhex("2b7e151628aed2a6abf7158809cf4f3c"))
        self.assertEqual(len(schedule), 11)
        self.assertEqual(schedule[1], unhex("a0fafe1788542cb123a339392a6c7605"))
        self.assertEqual(schedule[10], unhex("d014f9a8c9ee2589e13f0cc8b6630ca6"))

    def test_tables_by_their_definition(self):
        self.assertEqual(list(S_BOX), BOX)
        self.assertEqual(list(DOUBLED), [times(2, byte) for byte in range(256)])

    def test_many(self):
        for start in range(60):
            key = pseudo(start, 16)
            block = pseudo(start + 100, 16)
            self.assertEqual(row_of(encrypt(schedule_of(key), number_of(block))), aes(key, block))


class MixTest(unittest.TestCase):
    def test_ordinary(self):
        for start in range(40):
            key, x, t = pseudo(start, 16), pseudo(start + 50, 16), pseudo(start + 200, 16)
            self.assertEqual(ask(mix(key, x, t)), (0, said_mix(key, x, t), []))

    def test_x_is_doubled_and_t_is_not(self):
        key = pseudo(3, 16)
        self.assertEqual(ask(mix(key, sixteen(1), NOTHING)), ask(mix(key, NOTHING, sixteen(2))))
        self.assertEqual(ask(mix(key, sixteen(2 ** 127), NOTHING)), ask(mix(key, NOTHING, sixteen(135))))
        self.assertNotEqual(ask(mix(key, sixteen(2), NOTHING)), ask(mix(key, NOTHING, sixteen(2))))

    def test_sum_of_cipher_and_what_went_in(self):
        key = pseudo(9, 16)
        x = pseudo(10, 16)
        told = ask(mix(key, x, said_twice(x)))[1]
        self.assertEqual(told, aes(key, NOTHING))

    def test_all_bits_of_key_x_and_t_count(self):
        rows = [pseudo(1, 16), pseudo(2, 16), pseudo(4, 16)]
        seen = {wide(ask(mix(*rows))[1])}
        for place in range(3):
            for k in range(128):
                changed = list(rows)
                changed[place] = sixteen(wide(rows[place]) ^ 1 << k)
                seen.add(wide(ask(mix(*changed))[1]))
        # x and t may meet in one y: twice of x's bit k is t's bit k + 1, and 127 is t's four lowest.
        self.assertEqual(len(seen), 1 + 3 * 128 - 127)

    def test_other_than_sixteen(self):
        for size in (0, 1, 15, 17, 32):
            for place in range(3):
                rows = [[1] * 16, [2] * 16, [3] * 16]
                rows[place] = [4] * size
                self.assertEqual(ask(mix(*rows)), refused(-1))

    def test_one_answer_after_a_refusal(self):
        rows = run(mix([], [], []), mix([1] * 16, [2] * 16, [3] * 16))
        self.assertEqual(rows, [refused(-1), (0, said_mix([1] * 16, [2] * 16, [3] * 16), [])])


if __name__ == "__main__":
    unittest.main()
