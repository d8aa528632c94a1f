"""Promises 1 and 2: begin and set."""

import unittest

from helper import BEGIN, CONTENT, COUNT, DEGREE, GREATEST, LEAST, answered, asked, put
from takenapart.desk import answers


class Begin(unittest.TestCase):
    def test_answers_0(self):
        self.assertEqual(answers([0]), [1, 0])

    def test_the_polynomial_is_0_behind_it(self):
        self.assertEqual(answered(DEGREE, CONTENT, COUNT), [[-3], [-3], [-3]])

    def test_once_more_makes_the_polynomial_0(self):
        self.assertEqual(
            answered(put(0, [1, 2]), DEGREE, BEGIN, DEGREE, CONTENT, COUNT),
            [[0], [1], [0], [-3], [-3], [-3]])

    def test_many_times(self):
        self.assertEqual(answers([0] * 40), [1, 0] * 40)

    def test_set_works_behind_the_second(self):
        self.assertEqual(answered(put(0, [1, 2]), BEGIN, put(0, [4, 0, 2]), DEGREE, CONTENT),
                         [[0], [0], [0], [2], [0, 2]])


class Set(unittest.TestCase):
    def test_answers_0(self):
        self.assertEqual(answers([0, 1, 0, 2, 5, 6]), [1, 0, 1, 0])
        self.assertEqual(answers([0, 1, 1, 2, 5, 6]), [1, 0, 1, 0])

    def test_takes_the_place_of_what_was(self):
        self.assertEqual(answered(put(0, [1, 2, 3]), put(0, [4, 8]), DEGREE, CONTENT), [[0], [0], [1], [0, 4]])

    def test_no_coefficients(self):
        self.assertEqual(answers([0, 1, 0, 0, 2]), [1, 0, 1, 0, 1, -3])
        self.assertEqual(answered(put(0, [1, 2]), put(0, []), DEGREE), [[0], [0], [-3]])
        self.assertEqual(answered(put(0, [1, 2]), put(1, []), DEGREE), [[0], [0], [1]])

    def test_zeros_alone(self):
        for length in range(1, 18):
            self.assertEqual(answered(put(0, [0] * length), DEGREE, CONTENT, COUNT), [[0], [-3], [-3], [-3]])

    def test_seventeen_coefficients(self):
        f = [3 * (k + 1) for k in range(17)]
        self.assertEqual(answered(put(0, f), DEGREE, CONTENT), [[0], [16], [0, 3]])

    def test_zeros_at_the_end_change_nothing(self):
        for zeros in range(15):
            f = [6, -4] + [0] * zeros
            self.assertEqual(answered(put(0, f), DEGREE, CONTENT, COUNT), [[0], [1], [0, -2], [1]])

    def test_coefficients_modulo_2_to_the_32(self):
        self.assertEqual(answers([0, 1, 0, 1, 4294967295, 3]), [1, 0, 1, 0, 2, 0, -1])
        self.assertEqual(answers([0, 1, 0, 1, 2147483648, 3]), [1, 0, 1, 0, 2, 0, -2147483648])
        self.assertEqual(answers([0, 1, 0, 1, 2147483647, 3]), [1, 0, 1, 0, 2, 0, 2147483647])
        self.assertEqual(answers([0, 1, 0, 1, 2147483649, 3]), [1, 0, 1, 0, 2, 0, -2147483647])
        self.assertEqual(answers([0, 1, 0, 1, 0, 3]), [1, 0, 1, 0, 1, -3])

    def test_coefficients_below_0_stand_for_themselves_within(self):
        # x^2 - 1 has two parts, x^2 + 4294967295 only one.
        self.assertEqual(answers([0, 1, 0, 3, 4294967295, 0, 1, 4]), [1, 0, 1, 0, 1, 2])
        # x^2 - 4294967296 times -1 can't be handed in, but x - 2147483648 can.
        self.assertEqual(answers([0, 1, 0, 2, 2147483648, 1, 2, 3, 4]), [1, 0, 1, 0, 1, 1, 2, 0, 1, 1, 1])

    def test_another_which(self):
        for which in (-1, 2, 3, 17, -2, LEAST, GREATEST):
            self.assertEqual(answered(put(which, [1, 2])), [[-1]])
            self.assertEqual(answered(put(which, [])), [[-1]])
            self.assertEqual(answered(put(which, [7] * 17), DEGREE), [[-1], [-3]])

    def test_a_refusal_changes_nothing(self):
        for which in (-1, 2, LEAST, GREATEST):
            self.assertEqual(
                answered(put(0, [2, 4, 6]), put(which, [5, 5, 5, 5]), DEGREE, CONTENT, COUNT),
                [[0], [-1], [2], [0, 2], [1]])

    def test_more_than_seventeen_coefficients(self):
        self.assertEqual(answered(put(0, [2, 2]), put(0, [3] * 18), DEGREE, CONTENT), [[0], [-1], [1], [0, 2]])
        self.assertEqual(answered(put(1, [3] * 18)), [[-1]])

    def test_fewer_than_no_coefficients(self):
        self.assertEqual(answers([0, 1, 0, 2, 2, 2, 1, 0, -1, 2]), [1, 0, 1, 0, 1, -1, 1, 1])

    def test_the_other_one_while_the_polynomial_is_0(self):
        self.assertEqual(answered(put(1, [1, 2, 1]), DEGREE, CONTENT, COUNT), [[0], [-3], [-3], [-3]])

    def test_the_other_one_leaves_the_polynomial(self):
        self.assertEqual(
            answered(put(0, [3, 6]), put(1, [5, 5, 5]), DEGREE, CONTENT, COUNT),
            [[0], [0], [1], [0, 3], [1]])

    def test_the_coefficient_of_x_to_the_0_comes_first(self):
        self.assertEqual(asked([-2, 4], CONTENT), [0, 2])
        self.assertEqual(asked([2, -4], CONTENT), [0, -2])


if __name__ == "__main__":
    unittest.main()
