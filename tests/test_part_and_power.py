"""Promises 6 and 7: part and power."""

import itertools
import unittest

from helper import (
    ALL_LINEAR_MODULO_SIX, BEYOND_32_BITS, COUNT, CUBIC, DEGREE, EIGHTH, FOUR_ROOTS, GREATEST, LEAST, LINEAR,
    QUADRATIC, QUARTIC, TRIANGLE_BEYOND_32_BITS, answered, asked, in_order, padded, part, parts_by_trial, power,
    power_of, put, small_ones, sparse, taken_apart, times)
from takenapart.desk import answers


class Parts(unittest.TestCase):
    def check(self, number, pairs):
        """The number times these parts with these powers is taken apart into just them, in this order."""
        f = times([number], *[power(g, exponent) for g, exponent in pairs])
        self.assertEqual(taken_apart(f), pairs, f)
        behind = len(pairs)
        self.assertEqual(answered(put(0, f), part(behind), power_of(behind), part(-1), power_of(-1)),
                         [[0], [-1], [-1], [-1], [-1]], f)

    def check_in_order(self, number, pairs):
        self.check(number, in_order(pairs))


class Form(Parts):
    def test_of_part(self):
        # 2 x^2 - x - 1 is (x - 1) (2 x + 1).
        line = [0, 1, 0, 3, 4294967295, 4294967295, 2]
        self.assertEqual(answers(line + [5, 0]), [1, 0, 1, 0, 18, 1, -1, 1] + [0] * 15)
        self.assertEqual(answers(line + [5, 1]), [1, 0, 1, 0, 18, 1, 1, 2] + [0] * 15)
        self.assertEqual(answers(line + [5, 2]), [1, 0, 1, 0, 1, -1])
        self.assertEqual(answers(line + [5, -1]), [1, 0, 1, 0, 1, -1])

    def test_of_power(self):
        # x^3 - x^2 is x^2 (x - 1).
        line = [0, 1, 0, 4, 0, 0, 4294967295, 1]
        self.assertEqual(answers(line + [6, 0]), [1, 0, 1, 0, 1, 1])
        self.assertEqual(answers(line + [6, 1]), [1, 0, 1, 0, 1, 2])
        self.assertEqual(answers(line + [6, 2]), [1, 0, 1, 0, 1, -1])
        self.assertEqual(answers(line + [6, -1]), [1, 0, 1, 0, 1, -1])

    def test_part_of_degree_16_has_no_zeros_behind_it(self):
        f = sparse({16: 3, 15: -4, 3: 8, 0: 2})
        self.assertEqual(asked(f, part(0)), [16] + f)


class WhereThereIsNone(Parts):
    def test_of_a_number(self):
        for number in (1, -1, 2, -6, LEAST, GREATEST):
            for k in (0, 1, -1, LEAST, GREATEST):
                self.assertEqual(answered(put(0, [number]), part(k), power_of(k)), [[0], [-1], [-1]])

    def test_every_k_that_is_none(self):
        f = sparse({16: 1, 0: -1})
        for k in (5, 6, 15, 16, 17, 255, 256, 65536, GREATEST, -1, -2, -5, -6, -17, -256, LEAST):
            self.assertEqual(answered(put(0, f), part(k), power_of(k)), [[0], [-1], [-1]], k)

    def test_minus_3_comes_ahead_where_the_polynomial_is_0(self):
        for k in (0, 1, -1, 16, 17, LEAST, GREATEST):
            self.assertEqual(answered(part(k), power_of(k)), [[-3], [-3]])
            self.assertEqual(answered(put(0, [0] * 17), part(k), power_of(k)), [[0], [-3], [-3]])
            self.assertEqual(answered(put(1, [-1, 0, 1]), part(k), power_of(k)), [[0], [-3], [-3]])

    def test_a_refusal_changes_nothing(self):
        self.assertEqual(
            answered(put(0, [-1, 0, 1]), part(2), power_of(2), part(-1), part(0), power_of(1), DEGREE),
            [[0], [-1], [-1], [-1], padded([-1, 1]), [1], [2]])


class Order(Parts):
    def test_by_degree(self):
        self.check(1, [([0, 1], 1), ([1, 0, 1], 1), ([-2, 0, 0, 1], 1), ([1, 0, 0, 0, 1], 1)])
        # The degree goes ahead of all coefficients.
        self.check(1, [([9, 7], 1), ([-5, 0, 1], 1)])
        self.check(1, [([100, 353], 1), ([-2, 0, 3], 1), ([-2, 0, 0, 1], 1)])

    def test_by_the_first_coefficient(self):
        self.check(1, [([5, 1], 1), ([3, 2], 1), ([-1, 3], 1)])
        self.check(1, [([7, 0, 1], 1), ([-1, 0, 2], 1), ([-2, 0, 3], 1)])
        # As numbers, not as texts or modulo something.
        self.check(1, [([1, 2], 1), ([1, 9], 1), ([1, 10], 1), ([1, 255], 1), ([1, 256], 1)])

    def test_by_the_next_coefficients(self):
        self.check(1, [([9, -1, 1], 1), ([5, 0, 1], 1), ([-3, 1, 1], 1)])
        self.check(1, [([7, 5, -1, 2], 1), ([5, -1, 0, 2], 1), ([3, 0, 0, 2], 1), ([-5, 1, 0, 2], 1)])

    def test_by_the_last_coefficient_alone(self):
        self.check(1, [([a, 1], 1) for a in range(-5, 6)])
        self.check(1, [([a, 0, 1], 1) for a in (-7, -5, -3, -2, 1, 2, 3, 5)])
        self.check(1, [([a, 0, 0, 3], 1) for a in (-5, -2, 2, 5, 7)])
        self.check(1, [(sparse({8: 1, 0: -3}), 1), (sparse({8: 1, 0: -2}), 1)])
        self.check(1, [([LEAST // 4, 1], 1), ([0, 1], 1), ([3, 1], 1)])
        self.check(1, [([-46340, 1], 1), ([-46339, 1], 1)])
        self.check(1, [([LEAST, 1], 1), ([0, 1], 3)])
        self.check(1, [([0, 1], 15), ([GREATEST, 1], 1)])

    def test_by_the_sign_of_the_last_coefficient_alone(self):
        self.check(1, [([-1, 1], 1), ([1, 1], 1)])
        self.check(-3, [([-1, 2], 2), ([1, 2], 1)])
        self.check(1, [([-3, 0, 1], 1), ([3, 0, 1], 1)])
        self.check(2, [([-5, 5, 0, 0, 3], 1), ([5, 5, 0, 0, 3], 2)])
        self.check(1, [(sparse({8: 1, 0: -3}), 1), (sparse({8: 1, 0: 3}), 1)])

    def test_by_the_sign_of_a_middle_coefficient_alone(self):
        self.check(1, [([1, -1, 1], 1), ([1, 1, 1], 1)])
        # x^16 + 4.
        self.check(1, [(sparse({8: 1, 4: -2, 0: 2}), 1), (sparse({8: 1, 4: 2, 0: 2}), 1)])

    def test_does_not_depend_on_the_power(self):
        for powers in itertools.permutations((1, 2, 3, 5)):
            self.check(1, list(zip(([-1, 1], [1, 1], [-1, 2], [1, 2]), powers)))


class Powers(Parts):
    def test_one_part_many_times(self):
        for exponent in range(1, 17):
            for f in ([0, 1], [1, 1], [-1, 1], [1, 2], [3, 1]):
                self.check(1, [(f, exponent)])
        for exponent in range(1, 9):
            self.check(1, [([1, 1, 1], exponent)])
            self.check(-1, [([-2, 0, 1], exponent)])
        for exponent in range(1, 5):
            self.check(7, [([2, 2, 0, 0, 3], exponent)])
        self.check(1, [(EIGHTH[2], 2)])

    def test_one_part_many_times_beside_others(self):
        for exponent in range(1, 15):
            self.check_in_order(1, [([1, 1], exponent), ([-1, 2], 1), ([0, 1], 1)])
            self.check_in_order(-2, [([0, 1], exponent), ([-1, 3, 1], 1)])
        self.check(1, [([-1, 1], 4), ([1, 1], 5), ([1, 0, 1], 3)])
        self.check(1, [([0, 1], 7), ([-3, 2], 1), ([1, 2], 6)])
        self.check(1, [([0, 1], 3), ([1, 1, 1], 2), ([-2, 0, 0, 1], 3)])
        self.check(1, [([1, 3], 2), (sparse({7: 1, 0: -2}), 2)])
        self.check(1, [([1, 1], 8), (EIGHTH[0], 1)])

    def test_powers_as_high_as_the_primes(self):
        for prime in (2, 3, 5, 7, 11, 13):
            self.check(1, [([1, 1], prime), ([2, 1], 1)])
            self.check(1, [(sparse({prime: 1, 0: -prime}), 1)])

    def test_all_shares_of_degree_8_among_three(self):
        for a, b, c in itertools.product(range(1, 7), repeat=3):
            if a + b + c == 8:
                self.check(-1, [([0, 1], a), ([2, 1], b), ([-3, 2], c)])
                self.check(5, [([-2, 0, 1], a), ([1, 0, 1], b), ([1, 1, 1], c)])


class Contents(Parts):
    def test_a_number_goes_into_no_part_and_is_none(self):
        for number in (1, 2, 6, 30, 1000003):
            self.check(number, [([-1, 1], 1), ([1, 1], 2)])
            self.check(number, [([1, 2], 1), ([1, 0, 6], 1)])

    def test_below_0(self):
        for number in (-1, -2, -6, -30, -1000003):
            self.check(number, [([-1, 1], 1), ([1, 1], 2)])
            self.check(number, [([-3, 2], 3)])
            self.check(number, [([1, 0, 2], 1)])

    def test_at_the_ends_of_the_range(self):
        self.check(LEAST, [([0, 1], 16)])
        self.check(LEAST, [([0, 1], 1), ([1, 0, 1], 1)])
        self.check(GREATEST, [([-1, 1], 1), ([1, 1], 1), ([1, 0, 1], 1), ([1, 0, 0, 0, 1], 1), (EIGHTH[0], 1)])
        self.check(LEAST, [([1] * 17, 1)])
        self.check(1, [([LEAST, GREATEST], 1)])
        self.check(-1, [([-GREATEST, 1073741824], 1)])


class Known(Parts):
    def test_each_by_itself(self):
        for f in LINEAR + QUADRATIC + CUBIC + QUARTIC + EIGHTH:
            for number in (1, -1, 15, -4):
                self.check(number, [(f, 1)])

    def test_every_pair(self):
        for pair in itertools.combinations(LINEAR + QUADRATIC + CUBIC + QUARTIC, 2):
            self.check_in_order(1, [(pair[0], 1), (pair[1], 2)])

    def test_three_of_different_degrees(self):
        for three in itertools.product(LINEAR, QUADRATIC, CUBIC):
            self.check(-1, [(three[0], 3), (three[1], 2), (three[2], 1)])

    def test_many_of_the_same_degree(self):
        self.check_in_order(1, [(f, 1) for f in LINEAR])
        self.check_in_order(1, [(f, 1) for f in QUADRATIC])
        self.check_in_order(1, [(f, 1) for f in QUARTIC])
        self.check_in_order(1, [([a, b], 1) for a in (1, -1) for b in (1, 2, 3, 4, 5, 6)])
        for pair in itertools.combinations(EIGHTH, 2):
            self.check_in_order(1, [(pair[0], 1), (pair[1], 1)])

    def test_sixteen_parts(self):
        rows = {1: (-2, -1, 0, 1, 2), 2: (-1, 1), 3: (-4, -2, -1, 1, 2, 4), 4: (-1, 1), 5: (-1,)}
        pairs = [([a, b], 1) for b in rows for a in rows[b]]
        self.assertEqual(len(pairs), 16)
        self.check(1, pairs)

    def test_small_ones_against_trial(self):
        for f in small_ones():
            self.assertEqual(taken_apart(f), parts_by_trial(f), f)


class DegreeSixteen(Parts):
    def test_one_part(self):
        for f in (FOUR_ROOTS, FOUR_ROOTS[::-1], ALL_LINEAR_MODULO_SIX, sparse({16: 1, 0: 1}), sparse({16: 2, 0: 1}),
                  sparse({16: 1, 0: -GREATEST}), sparse({16: GREATEST, 0: LEAST}), [1] * 17,
                  [GREATEST, LEAST] * 8 + [GREATEST]):
            self.check(1, [(f, 1)])
            if LEAST not in f:
                self.check(-1, [(f, 1)])

    def test_several_parts(self):
        self.check(1, [([a, 1], 1) for a in (-1, 1)] + [([1, 0, 1], 1), ([1, 0, 0, 0, 1], 1), (EIGHTH[0], 1)])
        self.check(1, [([1, -1, 1], 1), ([1, 1, 1], 1), (sparse({4: 1, 2: -1, 0: 1}), 1),
                       (sparse({8: 1, 4: -1, 0: 1}), 1)])
        self.check(1, [([-2, 1], 1), ([2, 1], 1), ([4, 0, 1], 1), (sparse({4: 1, 0: 16}), 1),
                       (sparse({8: 1, 0: 256}), 1)])
        self.check(1, [(sparse({8: 32768, 0: -1}), 1), (sparse({8: 32768, 0: 1}), 1)])
        for linear in LINEAR:
            self.check(1, [(linear, 1), (sparse({15: 3, 7: 10, 0: -5}), 1)])

    def test_pieces_that_only_join_in_one_way(self):
        # The least polynomials of sqrt 2 + sqrt 3 + sqrt 5, and of i + sqrt 2 + sqrt 5.
        three_roots = sparse({8: 1, 6: -40, 4: 352, 2: -960, 0: 576})
        other_roots = sparse({8: 1, 6: -24, 4: 192, 2: 64, 0: 576})
        self.check(1, [(three_roots, 1), (other_roots, 1)])
        self.check(-1, [(three_roots, 2)])

    def test_a_part_with_a_coefficient_beyond_32_bits(self):
        self.check(1, [([-1, 1], 4), (BEYOND_32_BITS, 1)])
        self.check(-1, [([-1, 1], 4), (BEYOND_32_BITS, 1)])
        self.check(1, [([-1, 1], 2), (TRIANGLE_BEYOND_32_BITS, 1)])
        self.check(1, [([1, -1, 1], 1), (TRIANGLE_BEYOND_32_BITS, 1)])
        # x put as -x.
        turned = [c * (-1) ** k for k, c in enumerate(BEYOND_32_BITS)]
        self.check(1, [([1, 1], 4), (turned, 1)])
        self.assertEqual(min(turned[1::2]), -40 * 300000000)


class WithOtherCalls(Parts):
    def test_changes_nothing(self):
        f = times([-4], power([1, 1], 3), [-1, 2])
        told = [padded([1, 1]), padded([-1, 2]), [3], [1]]
        self.assertEqual(
            answered(put(0, f), part(0), part(1), power_of(0), power_of(1), part(0), part(1), power_of(0), power_of(1),
                     COUNT, DEGREE),
            [[0]] + told + told + [[2], [4]])

    def test_the_other_one_does_not_count(self):
        self.assertEqual(
            answered(put(0, [-1, 0, 1]), put(1, [3, 1]), part(0), part(1), part(2), power_of(1), power_of(2)),
            [[0], [0], padded([-1, 1]), padded([1, 1]), [-1], [1], [-1]])

    def test_zeros_at_the_end_change_nothing(self):
        for zeros in range(15):
            self.assertEqual(
                answered(put(0, [-6, 4] + [0] * zeros), part(0), power_of(0), part(1)),
                [[0], padded([-3, 2]), [1], [-1]])


if __name__ == "__main__":
    unittest.main()
