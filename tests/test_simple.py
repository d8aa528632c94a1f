"""Promise 8: simple."""

import itertools
import unittest

from helper import (
    ALL_LINEAR_MODULO_SIX, COUNT, CUBIC, DEGREE, EIGHTH, FOUR_ROOTS, GREATEST, LEAST, LINEAR, QUADRATIC, QUARTIC,
    SIMPLE, answered, asked, negative, part, parts_by_trial, power, put, small_ones, sparse, times)
from takenapart.desk import answers

KNOWN = LINEAR + QUADRATIC + CUBIC + QUARTIC + EIGHTH


def simple(f):
    return asked(f, SIMPLE)


class Simple(unittest.TestCase):
    def test_the_form_of_the_answer(self):
        self.assertEqual(answers([0, 1, 0, 3, 1, 0, 1, 7]), [1, 0, 1, 0, 1, 1])
        self.assertEqual(answers([0, 1, 0, 3, 4294967295, 0, 1, 7]), [1, 0, 1, 0, 1, 0])
        self.assertEqual(answers([0, 7]), [1, 0, 1, -3])

    def test_all_that_are_known_to_be(self):
        for f in KNOWN:
            self.assertEqual(simple(f), [1], f)
            self.assertEqual(simple(f + [0] * (17 - len(f))), [1], f)

    def test_degree_16(self):
        for f in (FOUR_ROOTS, ALL_LINEAR_MODULO_SIX, sparse({16: 1, 0: 1}), sparse({16: 3, 5: 6, 0: 2}),
                  sparse({16: 1, 0: -GREATEST}), sparse({16: GREATEST, 0: LEAST}), [1] * 17):
            self.assertEqual(simple(f), [1], f)
            if LEAST not in f:
                self.assertEqual(simple(negative(f)), [0], f)
        self.assertEqual(simple(sparse({16: 1, 0: 4})), [0])
        self.assertEqual(simple(sparse({16: 1, 0: -1})), [0])
        self.assertEqual(simple([GREATEST] * 17), [0])

    def test_the_first_coefficient_is_above_0(self):
        for f in KNOWN:
            self.assertEqual(simple(negative(f)), [0], f)
        self.assertEqual(simple([1, -1]), [0])
        self.assertEqual(simple([-1, -1]), [0])
        self.assertEqual(simple([-1, 1]), [1])
        self.assertEqual(simple([GREATEST, LEAST]), [0])
        self.assertEqual(simple([LEAST, GREATEST]), [1])

    def test_no_number_above_1_goes_into_all_coefficients(self):
        for f in KNOWN:
            for number in (2, 3, -2, 1000):
                self.assertEqual(simple([number * c for c in f]), [0], (f, number))
        self.assertEqual(simple([0, 2]), [0])
        self.assertEqual(simple([2, 2]), [0])
        self.assertEqual(simple([6, 10, 15]), [1])

    def test_degree_1_or_more(self):
        for number in (1, -1, 2, 7, -7, LEAST, GREATEST):
            self.assertEqual(simple([number]), [0])
            self.assertEqual(simple([number] + [0] * 16), [0])

    def test_no_products(self):
        for pair in itertools.combinations_with_replacement(LINEAR + QUADRATIC + CUBIC + QUARTIC, 2):
            self.assertEqual(simple(times(*pair)), [0], pair)

    def test_no_powers(self):
        for exponent in range(2, 17):
            self.assertEqual(simple(power([1, 1], exponent)), [0])
            self.assertEqual(simple(power([0, 1], exponent)), [0])
        for exponent in range(2, 9):
            self.assertEqual(simple(power([1, 0, 1], exponent)), [0])
        self.assertEqual(simple(power(EIGHTH[0], 2)), [0])

    def test_x_to_the_n_and_1_where_n_is_a_power_of_2(self):
        for n in range(1, 17):
            self.assertEqual(simple(sparse({n: 1, 0: 1})), [1 if n in (1, 2, 4, 8, 16) else 0])

    def test_x_to_the_n_and_all_below_where_n_and_1_is_a_prime(self):
        for n in range(1, 17):
            self.assertEqual(simple([1] * (n + 1)), [1 if n + 1 in (2, 3, 5, 7, 11, 13, 17) else 0])

    def test_small_ones_against_trial(self):
        for f in small_ones():
            self.assertEqual(simple(f), [1 if parts_by_trial(f) == [(f, 1)] else 0], f)

    def test_where_the_polynomial_is_0(self):
        self.assertEqual(answered(SIMPLE, put(1, [1, 1]), SIMPLE), [[-3], [0], [-3]])
        self.assertEqual(simple([]), [-3])
        self.assertEqual(simple([0] * 17), [-3])

    def test_changes_nothing(self):
        self.assertEqual(answered(put(0, [-1, 0, 3]), put(1, [0, 0, 1]), SIMPLE, SIMPLE, COUNT, DEGREE, part(1)),
                         [[0], [0], [1], [1], [1], [2], [-1]])


if __name__ == "__main__":
    unittest.main()
