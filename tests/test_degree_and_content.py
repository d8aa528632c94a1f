"""Promises 3 and 4: degree and content."""

import unittest

from helper import CONTENT, COUNT, DEGREE, GREATEST, LEAST, answered, asked, put
from takenapart.desk import answers


class Degree(unittest.TestCase):
    def test_every_degree(self):
        for degree in range(17):
            self.assertEqual(asked([0] * degree + [1], DEGREE), [degree])
            self.assertEqual(asked([5] * degree + [-1], DEGREE), [degree])
            self.assertEqual(asked([5] * degree + [LEAST] + [0] * (16 - degree), DEGREE), [degree])

    def test_of_a_number(self):
        for number in (1, -1, LEAST, GREATEST):
            self.assertEqual(asked([number], DEGREE), [0])

    def test_where_the_polynomial_is_0(self):
        self.assertEqual(answers([0, 2]), [1, 0, 1, -3])
        self.assertEqual(asked([], DEGREE), [-3])
        self.assertEqual(asked([0, 0, 0], DEGREE), [-3])

    def test_changes_nothing(self):
        self.assertEqual(answered(put(0, [2, 4]), DEGREE, DEGREE, CONTENT), [[0], [1], [1], [0, 2]])


class Content(unittest.TestCase):
    def test_the_greatest_that_goes_into_all(self):
        self.assertEqual(asked([12, 18, 30], CONTENT), [0, 6])
        self.assertEqual(asked([6, 10, 15], CONTENT), [0, 1])
        self.assertEqual(asked([4, 0, 0, 6], CONTENT), [0, 2])
        self.assertEqual(asked([0, 0, 9], CONTENT), [0, 9])
        self.assertEqual(asked([0, 14, 21, 0, 0], CONTENT), [0, 7])

    def test_the_sign_is_that_of_the_highest_power(self):
        self.assertEqual(asked([12, 18, -30], CONTENT), [0, -6])
        self.assertEqual(asked([-12, -18, 30], CONTENT), [0, 6])
        self.assertEqual(asked([-12, -18, -30], CONTENT), [0, -6])
        self.assertEqual(asked([1, -1], CONTENT), [0, -1])
        self.assertEqual(asked([-1, 1], CONTENT), [0, 1])
        self.assertEqual(asked([4, -6, 0, 0], CONTENT), [0, -2])

    def test_of_a_number(self):
        for number in (1, -1, 12, -12, LEAST, GREATEST):
            self.assertEqual(asked([number], CONTENT), [0, number])

    def test_at_the_ends_of_the_range(self):
        self.assertEqual(asked([LEAST] * 17, CONTENT), [0, LEAST])
        self.assertEqual(asked([GREATEST] * 17, CONTENT), [0, GREATEST])
        self.assertEqual(asked([LEAST, GREATEST], CONTENT), [0, 1])
        self.assertEqual(asked([GREATEST, LEAST], CONTENT), [0, -1])
        self.assertEqual(asked([LEAST, 1073741824], CONTENT), [0, 1073741824])

    def test_where_the_polynomial_is_0(self):
        self.assertEqual(answers([0, 3]), [1, 0, 1, -3])
        self.assertEqual(asked([], CONTENT), [-3])
        self.assertEqual(asked([0] * 17, CONTENT), [-3])

    def test_changes_nothing(self):
        self.assertEqual(answered(put(0, [2, 4]), CONTENT, CONTENT, DEGREE, COUNT), [[0], [0, 2], [0, 2], [1], [1]])


if __name__ == "__main__":
    unittest.main()
