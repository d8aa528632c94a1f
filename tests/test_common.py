"""Promise 9: common."""

import itertools
import unittest

from helper import (
    ALL_LINEAR_MODULO_SIX, BEGIN, BEYOND_32_BITS, COMMON, CONTENT, CUBIC, DEGREE, EIGHTH, FOUR_ROOTS, GREATEST, LEAST,
    LINEAR, QUADRATIC, QUARTIC, TRIANGLE_BEYOND_32_BITS, answered, negative, padded, parts_by_trial, power, put,
    small_ones, sparse, times)
from takenapart.desk import answers


class Common(unittest.TestCase):
    def check(self, f, g, expected):
        """The two have the expected one in common, whichever is the polynomial and whatever their signs."""
        for a, b in itertools.product((f, negative(f)), (g, negative(g))):
            if 2147483648 not in a + b:
                self.assertEqual(answered(put(0, a), put(1, b), COMMON), [[0], [0], padded(expected)], (a, b))
                self.assertEqual(answered(put(0, b), put(1, a), COMMON), [[0], [0], padded(expected)], (b, a))


class Ordinary(Common):
    def test_the_form_of_the_answer(self):
        # x^2 - 1 and 2 x^2 + 2 x.
        line = [0, 1, 0, 3, 4294967295, 0, 1, 1, 1, 3, 0, 2, 2]
        self.assertEqual(answers(line + [8]), [1, 0, 1, 0, 1, 0, 18, 1, 1, 1] + [0] * 15)

    def test_numbers_count(self):
        self.check([4, 4], [6, 6], [2, 2])
        self.check([4, 4], [6], [2])
        self.check([4, 6], [8, 10], [2])
        self.check(times([12], [1, 1], [2, 1]), times([18], [1, 1], [3, 1]), [6, 6])
        self.check(times([30], [1, 0, 1]), times([42], [1, 0, 1], [1, 2]), [6, 0, 6])
        self.check([3, 3], [2, 2], [1, 1])
        self.check([0, 8], [0, 0, 12], [0, 4])

    def test_two_numbers(self):
        for a, b, greatest in ((4, 6, 2), (1, 1, 1), (7, 5, 1), (12, 36, 12), (GREATEST, GREATEST, GREATEST)):
            self.check([a], [b], [greatest])
        self.check([LEAST], [1073741824], [1073741824])

    def test_the_number_that_cannot_be_handed_in(self):
        self.assertEqual(answered(put(0, [LEAST]), put(1, [LEAST]), COMMON), [[0], [0], padded([2147483648])])
        self.assertEqual(answered(put(0, [LEAST]), COMMON), [[0], padded([2147483648])])
        self.assertEqual(answered(put(1, [0, LEAST]), COMMON), [[0], padded([0, 2147483648])])
        self.assertEqual(answered(put(0, [LEAST] * 17), put(1, [LEAST] * 17), COMMON)[2], padded([2147483648] * 17))

    def test_a_number_and_another(self):
        self.check([6], [4, 8], [2])
        self.check([6], [1, 1], [1])
        self.check([5], [10] * 17, [5])
        self.check([1], [0, 1], [1])

    def test_the_same_twice(self):
        for f in LINEAR + QUADRATIC + CUBIC + QUARTIC + EIGHTH + [FOUR_ROOTS, [-6, 4], [8, 0, 12]]:
            self.check(f, f, f)

    def test_one_goes_into_the_other(self):
        for f, g in itertools.combinations(LINEAR + QUADRATIC + CUBIC + QUARTIC, 2):
            self.check(f, times(f, g), f)
            self.check(times([4], f), times([6], f, g), [2 * c for c in f])

    def test_the_lesser_power(self):
        for a, b in itertools.combinations(range(1, 9), 2):
            self.check(power([1, 1], a), power([1, 1], b), power([1, 1], a))
            self.check(times(power([1, 2], a), power([0, 1], b)), times(power([1, 2], b), power([0, 1], a)),
                       times(power([1, 2], a), power([0, 1], a)))

    def test_something_beside_what_they_have_in_common(self):
        for f, g, h in itertools.permutations(LINEAR[:4] + QUADRATIC[:2] + CUBIC[:2], 3):
            self.check(times(f, g), times(f, h), f)
            self.check(times([-6], f, f, g), times([10], f, f, h), [2 * c for c in times(f, f)])

    def test_small_ones_against_trial(self):
        ones = list(small_ones())[::37]
        for f, g in itertools.combinations(ones, 2):
            pairs = dict((tuple(a), often) for a, often in parts_by_trial(g))
            both = [power(a, min(often, pairs.get(tuple(a), 0))) for a, often in parts_by_trial(f)]
            self.assertEqual(answered(put(0, f), put(1, g), COMMON)[2], padded(times(*both)), (f, g))


class FirstCoefficient(Common):
    def test_is_above_0(self):
        self.check([1, -1], [-1, 1], [-1, 1])
        self.check([-2, -4], [-3, -6], [1, 2])
        self.check([1, 0, -1], [1, -1], [-1, 1])
        self.check([-4], [-6], [2])

    def test_where_one_is_0(self):
        for f in ([1, 1], [-6, 4], [5, -3], [0, -2], [7], [-7], [6, 0, -6, 0], [LEAST, GREATEST], [GREATEST, -GREATEST],
                  [3, -GREATEST], ALL_LINEAR_MODULO_SIX, FOUR_ROOTS, [-GREATEST] * 17):
            trimmed = f[:-1] if f[-1] == 0 else f
            expected = padded(trimmed if trimmed[-1] > 0 else negative(trimmed))
            self.assertEqual(answered(put(0, f), COMMON), [[0], expected])
            self.assertEqual(answered(put(1, f), COMMON), [[0], expected])
            self.assertEqual(answered(put(0, f), put(1, [0] * 17), COMMON), [[0], [0], expected])
            self.assertEqual(answered(put(0, []), put(1, f), COMMON), [[0], [0], expected])

    def test_the_last_coefficient_may_be_below_0(self):
        self.assertEqual(answered(put(1, [LEAST, 0, 1]), COMMON), [[0], padded([LEAST, 0, 1])])
        self.assertEqual(answered(put(1, [LEAST, 0, -1]), COMMON), [[0], padded([2147483648, 0, 1])])


class BothAre0(Common):
    def test_refused(self):
        self.assertEqual(answers([0, 8]), [1, 0, 1, -3])
        self.assertEqual(answered(put(0, []), put(1, [0]), COMMON), [[0], [0], [-3]])
        self.assertEqual(answered(put(0, [0] * 17), put(1, [0] * 17), COMMON), [[0], [0], [-3]])

    def test_behind_begin_once_more(self):
        self.assertEqual(
            answered(put(0, [1, 1]), put(1, [2, 2]), COMMON, BEGIN, COMMON, put(1, [0, 3]), COMMON, BEGIN, COMMON,
                     put(0, [0, 5]), COMMON),
            [[0], [0], padded([1, 1]), [0], [-3], [0], padded([0, 3]), [0], [-3], [0], padded([0, 5])])

    def test_where_the_last_that_was_not_0_is_set_to_0(self):
        self.assertEqual(answered(put(0, [1, 1]), put(0, []), COMMON), [[0], [0], [-3]])
        self.assertEqual(answered(put(1, [1, 1]), COMMON, put(1, [0]), COMMON), [[0], padded([1, 1]), [0], [-3]])


class DegreeSixteen(Common):
    def test_only_a_number_in_common(self):
        self.check(FOUR_ROOTS, ALL_LINEAR_MODULO_SIX, [1])
        self.check(sparse({16: 1, 0: 1}), sparse({16: 1, 0: -1}), [1])
        self.check(sparse({16: 6, 0: 12}), sparse({16: 10, 1: 20}), [2])
        self.check([7 * (k + 1) for k in range(17)], [21 * (17 - k) - 7 for k in range(17)], [7])
        self.check([GREATEST, -GREATEST + 1] * 8 + [GREATEST], [GREATEST - k * k for k in range(17)], [1])
        self.check([GREATEST - k for k in range(17)], [k - GREATEST for k in range(16, -1, -1)], [1])

    def test_of_degree_15_and_16(self):
        fifteenth = sparse({15: 3, 7: 10, 0: -5})
        self.check(times([1, 1], fifteenth), times([-1, 1], fifteenth), fifteenth)
        self.check(times([2, 2], fifteenth), times([-4, 6], fifteenth), [2 * c for c in fifteenth])
        self.check([6 * c for c in FOUR_ROOTS], [4 * c for c in FOUR_ROOTS], [2 * c for c in FOUR_ROOTS])

    def test_powers_of_x(self):
        self.check(sparse({16: 9}), sparse({16: 6, 8: 3}), sparse({8: 3}))
        self.check(sparse({16: 9}), sparse({16: 6}), sparse({16: 3}))

    def test_x_to_the_m_less_1_and_x_to_the_n_less_1(self):
        greatest = {(m, n): max(d for d in range(1, 17) if m % d == 0 and n % d == 0)
                    for m in range(1, 17) for n in range(1, 17)}
        for m, n in itertools.combinations(range(1, 17), 2):
            self.check(sparse({m: 1, 0: -1}), sparse({n: 1, 0: -1}), sparse({greatest[m, n]: 1, 0: -1}))

    def test_beyond_32_bits(self):
        both = TRIANGLE_BEYOND_32_BITS
        self.assertEqual(max(both), 2400000000)
        self.check(times(both, [-1, 1]), times(both, [1, -1, 1]), both)
        self.check(times(both, power([-1, 1], 2)), times(both, [1, -1, 1]), both)
        self.check(times(both, [0, -1, 1]), times(both, [1, -1, 1]), both)

    def test_of_a_part_beyond_32_bits(self):
        f = times(BEYOND_32_BITS, power([-1, 1], 3))
        self.check(f, times(f, [-1, 1]), f)
        self.check(f, [1, 0, 1], [1])


class WithOtherCalls(Common):
    def test_changes_nothing(self):
        told = padded([2, 2])
        self.assertEqual(
            answered(put(0, [4, 4]), put(1, [6, 0, -6]), COMMON, COMMON, DEGREE, CONTENT, COMMON, put(0, []), COMMON),
            [[0], [0], told, told, [1], [0, 4], told, [0], padded([-6, 0, 6])])

    def test_set_that_is_refused_changes_nothing(self):
        self.assertEqual(answered(put(0, [4, 4]), put(1, [6, 6]), put(2, [5]), put(-1, []), COMMON),
                         [[0], [0], [-1], [-1], padded([2, 2])])


if __name__ == "__main__":
    unittest.main()
