"""Promise 10: value."""

import unittest

from helper import (
    ALL_LINEAR_MODULO_SIX, BEGIN, COUNT, DEGREE, FOUR_ROOTS, GREATEST, LEAST, answered, asked, by_powers, put, sparse,
    times, value)
from takenapart.desk import answers

WORD = 18446744073709551616


class Value(unittest.TestCase):
    def test_the_form_of_the_answer(self):
        # x^2 + 3 at 5; x^2 - 3 at 1.
        self.assertEqual(answers([0, 1, 0, 3, 3, 0, 1, 9, 5]), [1, 0, 1, 0, 3, 0, 28, 0])
        self.assertEqual(answers([0, 1, 0, 3, 4294967293, 0, 1, 9, 1]),
                         [1, 0, 1, 0, 3, 0, 18446744073709551614, 18446744073709551615])
        self.assertEqual(answers([0, 1, 0, 3, 3, 0, 1, 9, -5]), [1, 0, 1, 0, 3, 0, 28, 0])

    def test_every_x_that_is_allowed(self):
        for f in ([7, -3, 5], [0, 1], [-4], FOUR_ROOTS, ALL_LINEAR_MODULO_SIX, [LEAST] * 17, [GREATEST] * 17,
                  [LEAST, GREATEST] * 8 + [LEAST]):
            for x in range(-60, 61):
                self.assertEqual(asked(f, value(x)), by_powers(f, x), (f, x))

    def test_every_degree(self):
        for degree in range(17):
            for first in (1, -1, LEAST, GREATEST):
                for x in (-60, -7, -1, 0, 1, 2, 60):
                    f = [0] * degree + [first]
                    self.assertEqual(asked(f, value(x)), by_powers(f, x), (f, x))
                    f = [3] * degree + [first]
                    self.assertEqual(asked(f, value(x)), by_powers(f, x), (f, x))

    def test_x_at_the_ends(self):
        f = [5, 1]
        self.assertEqual(asked(f, value(60)), [0, 65, 0])
        self.assertEqual(asked(f, value(-60)), [0, WORD - 55, WORD - 1])
        self.assertEqual(asked(f, value(61)), [-1])
        self.assertEqual(asked(f, value(-61)), [-1])

    def test_x_outside(self):
        for x in (61, 62, 64, 100, 256, 65536, GREATEST, -61, -62, -64, -256, LEAST):
            for f in ([1, 1], [3], [], [0] * 17, FOUR_ROOTS):
                self.assertEqual(asked(f, value(x)), [-1], (f, x))

    def test_at_0_and_at_1(self):
        self.assertEqual(asked([9, 8, 7], value(0)), [0, 9, 0])
        self.assertEqual(asked([-9, 8, 7], value(0)), [0, WORD - 9, WORD - 1])
        self.assertEqual(asked([9, 8, 7], value(1)), [0, 24, 0])
        self.assertEqual(asked([9, 8, 7], value(-1)), [0, 8, 0])

    def test_that_is_0(self):
        self.assertEqual(asked(times([-5, 1], [3, 1]), value(5)), [0, 0, 0])
        self.assertEqual(asked(times([-5, 1], [3, 1]), value(-3)), [0, 0, 0])
        self.assertEqual(asked([0, 1], value(0)), [0, 0, 0])

    def test_below_0(self):
        self.assertEqual(asked([-1], value(3)), [0, WORD - 1, WORD - 1])
        self.assertEqual(asked([LEAST], value(3)), [0, WORD - 2147483648, WORD - 1])
        # -2^64, and less 1.
        self.assertEqual(asked(sparse({16: -1}), value(16)), [0, 0, WORD - 1])
        self.assertEqual(asked(sparse({16: -1, 0: -1}), value(16)), [0, WORD - 1, WORD - 2])
        self.assertEqual(asked(sparse({16: LEAST}), value(60)), by_powers(sparse({16: LEAST}), 60))

    def test_beyond_2_to_the_64(self):
        self.assertEqual(asked(sparse({16: 1}), value(16)), [0, 0, 1])
        self.assertEqual(asked(sparse({16: 1, 0: -1}), value(16)), [0, WORD - 1, 0])
        self.assertEqual(asked(sparse({16: 1, 0: 1}), value(-16)), [0, 1, 1])
        self.assertEqual(asked(sparse({16: 5, 0: 7}), value(32)), [0, 7, 5 * 65536])
        # 60^16 is 15^16 * 2^32.
        told = asked(sparse({16: 1073741824, 0: 4}), value(60))
        self.assertEqual(told, [0, 15 ** 16 % 4 * 2 ** 62 + 4, 15 ** 16 // 4])

    def test_of_the_polynomial_that_is_0(self):
        self.assertEqual(answers([0, 9, 7]), [1, 0, 3, 0, 0, 0])
        for x in (-60, -1, 0, 1, 60):
            self.assertEqual(asked([], value(x)), [0, 0, 0])
            self.assertEqual(asked([0] * 17, value(x)), [0, 0, 0])
        self.assertEqual(answered(value(61), value(-61)), [[-1], [-1]])

    def test_the_other_one_does_not_count(self):
        self.assertEqual(answered(put(1, [5, 5]), value(2)), [[0], [0, 0, 0]])
        self.assertEqual(answered(put(0, [1, 2]), put(1, [5, 5]), value(2)), [[0], [0], [0, 5, 0]])

    def test_changes_nothing(self):
        self.assertEqual(
            answered(put(0, [1, 2]), value(3), value(61), value(3), DEGREE, COUNT, BEGIN, value(3)),
            [[0], [0, 7, 0], [-1], [0, 7, 0], [1], [1], [0], [0, 0, 0]])

    def test_forty_calls(self):
        f = [3, -1, 4, -1, 5, -9, 2]
        xs = [-60, -30, -2, 0, 2, 7, 59, 60, 61]
        told = [[-1] if x == 61 else by_powers(f, x) for x in xs]
        self.assertEqual(answered(put(0, f), *[value(x) for x in xs * 4]), [[0]] + told * 4)


if __name__ == "__main__":
    unittest.main()
