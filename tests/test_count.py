"""Promise 5: count."""

import itertools
import unittest

from helper import (
    ALL_LINEAR_MODULO_SIX, COUNT, CUBIC, DEGREE, EIGHTH, FOUR_ROOTS, GREATEST, LEAST, LINEAR, QUADRATIC, QUARTIC,
    answered, asked, parts_by_trial, power, put, small_ones, sparse, times)
from takenapart.desk import answers

def count(f):
    return asked(f, COUNT)


class Ordinary(unittest.TestCase):
    def test_the_form_of_the_answer(self):
        self.assertEqual(answers([0, 1, 0, 3, 4294967295, 0, 1, 4]), [1, 0, 1, 0, 1, 2])

    def test_where_the_polynomial_is_0(self):
        self.assertEqual(answers([0, 4]), [1, 0, 1, -3])
        self.assertEqual(count([]), [-3])
        self.assertEqual(count([0] * 17), [-3])

    def test_a_number_has_none(self):
        for number in (1, -1, 2, -6, 720, LEAST, GREATEST):
            self.assertEqual(count([number]), [0])
            self.assertEqual(count([number] + [0] * 16), [0])

    def test_degree_1(self):
        for f in ([0, 1], [0, -5], [1, 1], [6, 4], [-7, LEAST], [LEAST, GREATEST], [GREATEST, LEAST]):
            self.assertEqual(count(f), [1])

    def test_a_number_that_goes_into_all_is_no_part(self):
        self.assertEqual(count([6, 12, 6]), [1])
        self.assertEqual(count([-6, 0, 6]), [2])
        self.assertEqual(count([6, 0, -6]), [2])
        self.assertEqual(count([30, 0, 30]), [1])

    def test_powers_of_x(self):
        for exponent in range(1, 17):
            self.assertEqual(count([0] * exponent + [3]), [1])
        for exponent in range(1, 16):
            self.assertEqual(count([0] * exponent + [1, 1]), [2])

    def test_all_that_are_known_to_be_simple(self):
        for f in LINEAR + QUADRATIC + CUBIC + QUARTIC + EIGHTH:
            self.assertEqual(count(f), [1], f)
            self.assertEqual(count([-c for c in f]), [1], f)
            self.assertEqual(count([15 * c for c in f]), [1], f)

    def test_x_to_the_n_less_1_has_a_part_for_each_divisor_of_n(self):
        for n in range(1, 17):
            divisors = [d for d in range(1, n + 1) if n % d == 0]
            self.assertEqual(count(sparse({n: 1, 0: -1})), [len(divisors)])

    def test_x_to_the_n_and_1_has_a_part_for_each_odd_divisor_of_n(self):
        for n in range(1, 17):
            divisors = [d for d in range(1, n + 1, 2) if n % d == 0]
            self.assertEqual(count(sparse({n: 1, 0: 1})), [len(divisors)])

    def test_every_small_one_of_degree_5_and_less(self):
        for f in small_ones():
            self.assertEqual(count(f), [len(parts_by_trial(f))], f)


class ManyTimesOver(unittest.TestCase):
    def test_one_part(self):
        for exponent in range(1, 17):
            for f in ([1, 1], [-1, 1], [-1, -1], [1, 2], [3, 1]):
                self.assertEqual(count(power(f, exponent)), [1], (f, exponent))
        for exponent in range(1, 9):
            self.assertEqual(count(power([1, 1, 1], exponent)), [1])
            self.assertEqual(count(power([-2, 0, 1], exponent)), [1])
        for exponent in range(1, 5):
            self.assertEqual(count(power([2, 2, 0, 0, 3], exponent)), [1])
        self.assertEqual(count(power(EIGHTH[2], 2)), [1])

    def test_several_parts_with_several_powers(self):
        self.assertEqual(count(times(power([1, 1], 5), power([-1, 1], 4), power([1, 0, 1], 3))), [3])
        self.assertEqual(count(times([0] * 7 + [1], power([1, 2], 6), [-3, 2])), [3])
        self.assertEqual(count(times(power([1, 1, 1], 2), power([-2, 0, 0, 1], 3), [0, 0, 0, 1])), [3])
        self.assertEqual(count(times([-12], power([5, 3], 2), power([-10, 5, 0, 0, 7], 3))), [2])
        self.assertEqual(count(times(power(sparse({7: 1, 0: -2}), 2), power([1, 3], 2))), [2])

    def test_powers_as_high_as_the_primes(self):
        # The derivative of x^p is 0 modulo p.
        for prime in (2, 3, 5, 7, 11, 13):
            self.assertEqual(count(sparse({prime: 1, 0: -prime})), [1])
            self.assertEqual(count(power([1, 1], prime)), [1])
            self.assertEqual(count(times(power([1, 1], prime), [2, 1])), [2])


class SeveralOfTheSameDegree(unittest.TestCase):
    def test_degree_1(self):
        for size in range(1, len(LINEAR) + 1):
            self.assertEqual(count(times(*LINEAR[:size])), [size])
        self.assertEqual(count(times(*[[a, 1] for a in range(-5, 6)])), [11])
        self.assertEqual(count(times(*[[a, b] for a in (1, -1) for b in (1, 2, 3, 4, 5, 6)])), [12])

    def test_degree_2(self):
        for size in range(1, len(QUADRATIC) + 1):
            self.assertEqual(count(times(*QUADRATIC[:size])), [size])
        self.assertEqual(count(times(*[[a, 0, 1] for a in (1, 2, 3, 5, 6, 7, 10, 11)])), [8])

    def test_degree_4(self):
        self.assertEqual(count(times(*QUARTIC)), [4])
        for pair in itertools.combinations(QUARTIC, 2):
            self.assertEqual(count(times(*pair)), [2])

    def test_every_pair_and_three_of_different_degrees(self):
        known = LINEAR + QUADRATIC + CUBIC + QUARTIC
        for pair in itertools.combinations(known, 2):
            self.assertEqual(count(times(*pair)), [2], pair)
        for three in itertools.product(LINEAR, QUADRATIC, CUBIC):
            self.assertEqual(count(times(*three)), [3], three)


class FirstCoefficientAbove1(unittest.TestCase):
    def test_one_part(self):
        self.assertEqual(count([1, 0, 4]), [1])
        self.assertEqual(count(sparse({16: 2, 0: 1})), [1])
        self.assertEqual(count(sparse({16: 3, 5: 6, 0: 2})), [1])

    def test_in_products(self):
        self.assertEqual(count([-1, 0, 4]), [2])
        self.assertEqual(count([1, 5, 6]), [2])
        self.assertEqual(count(times([1, 2], [1, 3], [1, 0, 5], [1, 0, 7])), [4])
        self.assertEqual(count(times([7, 6], [5, 6], [-1, 6], [1, 0, 6])), [4])
        self.assertEqual(count(times([3, 0, 0, 0, 0, 0, 0, 9699690], [1, 221])), [2])

    def test_no_small_prime_keeps_the_degree(self):
        # 2 to 23 go into the first coefficient.
        self.assertEqual(count(sparse({16: 223092870, 0: 1})), [1])
        self.assertEqual(count(times([1, 30030], [1, 0, 7429])), [2])
        self.assertEqual(count(times([-1, 30030], [1, 30030])), [2])


class DegreeSixteen(unittest.TestCase):
    def test_they_look_as_if_they_could_be_taken_apart(self):
        self.assertEqual(count(sparse({16: 1, 0: 1})), [1])
        self.assertEqual(count(FOUR_ROOTS), [1])
        self.assertEqual(count([-c for c in FOUR_ROOTS]), [1])
        self.assertEqual(count(FOUR_ROOTS[::-1]), [1])
        self.assertEqual(count(ALL_LINEAR_MODULO_SIX), [1])
        self.assertEqual(count(sparse({16: 1, 8: -1, 0: 2})), [1])
        self.assertEqual(count(sparse({16: 1, 12: -1, 8: 1, 4: -1, 0: 1})), [1])

    def test_they_look_as_if_they_could_not(self):
        # x^16 + 4 is (x^8 + 2)^2 - (2 x^4)^2.
        self.assertEqual(count(sparse({16: 1, 0: 4})), [2])
        self.assertEqual(count(sparse({16: 4, 0: 1})), [2])
        self.assertEqual(count(sparse({16: 1, 8: 1, 0: 1})), [4])
        self.assertEqual(count(sparse({16: 1, 0: -65536})), [5])

    def test_products_of_two_of_degree_8(self):
        for pair in itertools.combinations(EIGHTH, 2):
            self.assertEqual(count(times(*pair)), [2], pair)
        # The least polynomials of sqrt 2 + sqrt 3 + sqrt 5, and of i + sqrt 2 + sqrt 5.
        three_roots = sparse({8: 1, 6: -40, 4: 352, 2: -960, 0: 576})
        other_roots = sparse({8: 1, 6: -24, 4: 192, 2: 64, 0: 576})
        self.assertEqual(count(three_roots), [1])
        self.assertEqual(count(other_roots), [1])
        self.assertEqual(count(times(three_roots, other_roots)), [2])
        self.assertEqual(count(times(three_roots, EIGHTH[0])), [2])
        self.assertEqual(count(times(three_roots, three_roots)), [1])

    def test_products_of_one_of_degree_15(self):
        fifteenth = sparse({15: 3, 7: 10, 0: -5})
        self.assertEqual(count(fifteenth), [1])
        for linear in LINEAR:
            self.assertEqual(count(times(linear, fifteenth)), [2])


class EndsOfTheRange(unittest.TestCase):
    def test_all_the_same(self):
        # A number times x^16 + x^15 + .. + 1.
        self.assertEqual(count([LEAST] * 17), [1])
        self.assertEqual(count([GREATEST] * 17), [1])
        # x^15 + .. + 1 goes into x^16 - 1.
        self.assertEqual(count([LEAST] * 16), [4])

    def test_one_part(self):
        # 2147483647 is a prime.
        self.assertEqual(count(sparse({16: 1, 0: -GREATEST})), [1])
        self.assertEqual(count(sparse({16: LEAST, 0: GREATEST})), [1])
        self.assertEqual(count(sparse({16: GREATEST, 0: LEAST})), [1])
        self.assertEqual(count(sparse({16: LEAST, 0: 1})), [1])
        self.assertEqual(count(sparse({16: 1, 0: LEAST})), [1])
        self.assertEqual(count([LEAST + k for k in range(17)]), [1])
        self.assertEqual(count([LEAST, GREATEST] * 8 + [LEAST]), [1])

    def test_several_parts(self):
        self.assertEqual(count(sparse({16: GREATEST, 0: -GREATEST})), [5])
        self.assertEqual(count(sparse({15: LEAST, 1: LEAST})), [3])
        # (2^15 x^8 - 1) (2^15 x^8 + 1); -2^30 x^14 (2 x^2 - 1).
        self.assertEqual(count(sparse({16: 1073741824, 0: -1})), [2])
        self.assertEqual(count(sparse({16: LEAST, 14: 1073741824})), [2])
        self.assertEqual(count(times([GREATEST, 1], [0] * 15 + [1])), [2])
        self.assertEqual(count(times([-46341, 46340], [46339, 46338])), [2])
        self.assertEqual(count(times([1, 46340], [1, 0, -46340])), [2])
        self.assertEqual(count(times([LEAST // 2, 1], [2, 0, 0, 0, 0, 0, 1])), [2])


class WithOtherCalls(unittest.TestCase):
    def test_changes_nothing(self):
        f = times([1, 1], [1, 1], [2, 1])
        self.assertEqual(answered(put(0, f), COUNT, COUNT, [2], [3], COUNT), [[0], [2], [2], [3], [0, 1], [2]])

    def test_the_other_one_does_not_count(self):
        self.assertEqual(answered(put(0, [-1, 0, 1]), put(1, [1, 1]), COUNT), [[0], [0], [2]])

    def test_ten_in_forty_calls(self):
        rounds = [(FOUR_ROOTS, 1), (ALL_LINEAR_MODULO_SIX, 1), (times(EIGHTH[0], EIGHTH[1]), 2), ([LEAST] * 17, 1),
                  (sparse({16: GREATEST, 0: -GREATEST}), 5), (power([1, 1], 16), 1), (times(*QUARTIC), 4),
                  (sparse({16: 1, 8: 1, 0: 1}), 4), ([GREATEST, LEAST] * 8 + [GREATEST], 1)]
        calls = []
        told = []
        for f, parts in rounds:
            calls += [put(0, f), put(1, [1, 2]), DEGREE, COUNT]
            told += [[0], [0], [16], [parts]]
        calls += [put(0, [7]), COUNT, DEGREE]
        told += [[0], [0], [0]]
        self.assertEqual((1 + len(calls), calls.count(COUNT)), (40, 10))
        self.assertEqual(answered(*calls), told)


if __name__ == "__main__":
    unittest.main()
