"""What the interface says of answers(calls), whatever the calls are."""

import contextlib
import io
import unittest

import takenapart.desk
from helper import (
    ALL_LINEAR_MODULO_SIX, BEGIN, COMMON, CONTENT, COUNT, DEGREE, FOUR_ROOTS, SIMPLE, answered, by_powers, padded, part,
    power, power_of, put, sparse, times, value)
from takenapart.desk import answers

LINE = (BEGIN + COUNT + put(0, [-6, 0, 6, 0, 0]) + put(1, [3, 3]) + put(2, [9]) + DEGREE + CONTENT + COUNT + part(1)
        + part(2) + power_of(1) + power_of(-1) + SIMPLE + COMMON + value(-3) + value(61) + BEGIN + DEGREE + COMMON)
TOLD = [1, 0, 1, -3, 1, 0, 1, 0, 1, -1, 1, 2, 2, 0, 6, 1, 2, 18, 1, 1, 1, 0, 0, 0, 0, 0, 0, 0, 0, 0, 0, 0, 0, 0, 0, 0,
        1, -1, 1, 1, 1, -1, 1, 0, 18, 1, 3, 3, 0, 0, 0, 0, 0, 0, 0, 0, 0, 0, 0, 0, 0, 0, 0, 3, 0, 48, 0, 1, -1, 1, 0,
        1, -3, 1, -3]


class Untouched(list):
    """A list that tells of every change, also of one that is undone."""

    def refuse(self, *arguments):
        raise AssertionError("the list that is handed in was changed")

    append = extend = insert = pop = remove = reverse = sort = clear = refuse
    __setitem__ = __delitem__ = __iadd__ = __imul__ = refuse


class Interface(unittest.TestCase):
    def test_one_list_in_and_one_out(self):
        self.assertEqual(answers(LINE), TOLD)

    def test_the_argument_is_called_calls(self):
        self.assertEqual(takenapart.desk.answers(calls=list(LINE)), TOLD)

    def test_what_is_handed_in_is_the_same_behind_the_call(self):
        line = list(LINE)
        answers(line)
        self.assertEqual(line, LINE)

    def test_what_is_handed_in_is_not_changed_for_a_while(self):
        self.assertEqual(answers(Untouched(LINE)), TOLD)

    def test_nothing_is_kept_from_one_time_to_the_next(self):
        for turn in range(3):
            self.assertEqual(answers(list(LINE)), TOLD)
        answers(BEGIN + put(0, [1, 2, 3]) + put(1, [4, 5]) + COUNT + part(0) + COMMON)
        self.assertEqual(answers([0, 2, 3, 4, 5, 0, 6, 0, 7, 8]), [1, 0] + [1, -3] * 7)

    def test_what_is_given_back_is_not_kept(self):
        first = answers(LINE)
        first.clear()
        self.assertEqual(answers(LINE), TOLD)

    def test_the_kinds_of_what_is_given_back(self):
        told = answers(LINE)
        self.assertIs(type(told), list)
        self.assertEqual({type(number) for number in told}, {int})

    def test_a_refusal_is_its_number_alone(self):
        self.assertEqual(answered(CONTENT, put(5, [1, 2]), part(0), COMMON, value(61)), [[-3], [-1], [-3], [-3], [-1]])
        self.assertEqual(answered(put(0, [1]), part(0), power_of(0)), [[0], [-1], [-1]])

    def test_prints_nothing(self):
        with contextlib.redirect_stdout(io.StringIO()) as out, contextlib.redirect_stderr(io.StringIO()) as errors:
            answers(LINE)
        self.assertEqual(out.getvalue() + errors.getvalue(), "")

    def test_a_call_that_is_not_there(self):
        for number in (-1, 10, 1000):
            with self.assertRaises(ValueError):
                answers([0, number])


class Lines(unittest.TestCase):
    def test_each_call_where_the_polynomial_is_0(self):
        refused = [DEGREE, CONTENT, COUNT, part(0), part(-1), part(5), power_of(0), power_of(-1), power_of(5), SIMPLE]
        for first in ([], [put(0, [])], [put(0, [0] * 17)], [put(1, [2, 2])], [put(0, [1, 1]), put(0, [0])],
                      [put(0, [-1, 0, 1]), BEGIN]):
            self.assertEqual(answered(*first, *refused), [[0]] * len(first) + [[-3]] * 10)
            self.assertEqual(answered(*first, value(60), value(61)), [[0]] * len(first) + [[0, 0, 0], [-1]])
        self.assertEqual(answered(COMMON, put(1, [-2, -2]), COMMON), [[-3], [0], padded([2, 2])])

    def test_begin_once_more_between_the_calls(self):
        self.assertEqual(
            answered(put(0, [-1, 0, 1]), put(1, [1, 1]), part(0), COMMON, BEGIN, part(0), power_of(0), SIMPLE, COMMON,
                     value(2), put(0, [2, 1]), part(0), part(1), COMMON, BEGIN, BEGIN, put(1, [0, 7]), COMMON, SIMPLE,
                     put(0, [0, 0, 5]), power_of(0), COMMON, value(-2)),
            [[0], [0], padded([-1, 1]), padded([1, 1]), [0], [-3], [-3], [-3], [-3],
             [0, 0, 0], [0], padded([2, 1]), [-1], padded([2, 1]), [0], [0], [0], padded([0, 7]), [-3],
             [0], [2], padded([0, 1]), [0, 20, 0]])

    def test_each_call_goes_on_behind_the_one_before_it(self):
        # k and x may be the number of a call, and coefficients too.
        self.assertEqual(
            answered(put(0, [7, 8, 9, 1]), value(8), part(5), power_of(6), part(0), value(9), SIMPLE),
            [[0], [0, 1159, 0], [-1], [-1], padded([7, 8, 9, 1]), [0, 1537, 0], [1]])

    def test_forty_calls_with_ten_that_take_apart(self):
        f = times([-6], power([1, 1], 3), power([-1, 2], 2), [1, 0, 1], sparse({9: 1, 0: -2}))
        g = times([4], [1, 1], [1, 0, 1], sparse({9: 1, 0: 2}))
        ninth = sparse({9: 1, 0: -2})
        calls = [put(0, f), put(1, g), COUNT, part(0), part(1), part(2), part(3), power_of(0), power_of(1), part(4),
                 power_of(-1), SIMPLE]
        told = [[0], [0], [4], padded([1, 1]), padded([-1, 2]), padded([1, 0, 1]), padded(ninth), [3], [2], [-1],
                [-1], [0]]
        for turn in range(6):
            calls += [DEGREE, CONTENT, COMMON, value(2)]
            told += [[16], [0, -6], padded(times([2, 2], [1, 0, 1])), by_powers(f, 2)]
        calls += [put(0, [1, 2]), put(1, []), COMMON]
        told += [[0], [0], padded([1, 2])]
        self.assertEqual(len(calls), 39)
        self.assertEqual(answered(*calls), told)

    def test_ten_that_take_apart_what_is_hard(self):
        for hard in (FOUR_ROOTS, ALL_LINEAR_MODULO_SIX):
            calls = [put(0, hard)] + [part(0), power_of(0), SIMPLE, COUNT, part(1)] * 2
            told = [[0]] + [padded(hard), [1], [1], [1], [-1]] * 2
            self.assertEqual(answered(*calls), told)


if __name__ == "__main__":
    unittest.main()
