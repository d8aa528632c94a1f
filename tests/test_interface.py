"""What the interface says of answers(calls), whatever the calls are."""

import contextlib
import io
import unittest

import takenapart.desk
from helper import BEGIN, CONTENT, COUNT, DEGREE, answered, put
from takenapart.desk import answers

LINE = (BEGIN + COUNT + put(0, [-6, 0, 6, 0, 0]) + put(1, [1, 2]) + put(2, [9]) + DEGREE + CONTENT + COUNT + BEGIN
        + DEGREE)
TOLD = [1, 0, 1, -3, 1, 0, 1, 0, 1, -1, 1, 2, 2, 0, 6, 1, 2, 1, 0, 1, -3]


class Untouched(list):
    """A list that tells of every change, also of one that is undone."""

    def refuse(self, *arguments):
        raise AssertionError("the list that is handed in was changed")

    append = extend = insert = pop = remove = reverse = sort = clear = refuse
    __setitem__ = __delitem__ = __iadd__ = __imul__ = refuse


class Interface(unittest.TestCase):
    def test_one_list_in_and_one_out(self):
        self.assertEqual(answers(LINE), TOLD)

    def test_the_argument_is_called_calls(self):
        self.assertEqual(takenapart.desk.answers(calls=list(LINE)), TOLD)

    def test_what_is_handed_in_is_the_same_behind_the_call(self):
        line = list(LINE)
        answers(line)
        self.assertEqual(line, LINE)

    def test_what_is_handed_in_is_not_changed_for_a_while(self):
        self.assertEqual(answers(Untouched(LINE)), TOLD)

    def test_nothing_is_kept_from_one_time_to_the_next(self):
        for turn in range(3):
            self.assertEqual(answers(list(LINE)), TOLD)
        answers(BEGIN + put(0, [1, 2, 3]))
        self.assertEqual(answers([0, 2, 3, 4]), [1, 0, 1, -3, 1, -3, 1, -3])

    def test_what_is_given_back_is_not_kept(self):
        first = answers(LINE)
        first.clear()
        self.assertEqual(answers(LINE), TOLD)

    def test_the_kinds_of_what_is_given_back(self):
        told = answers(LINE)
        self.assertIs(type(told), list)
        self.assertEqual({type(number) for number in told}, {int})

    def test_a_refusal_is_its_number_alone(self):
        self.assertEqual(answered(CONTENT, put(5, [1, 2])), [[-3], [-1]])

    def test_prints_nothing(self):
        with contextlib.redirect_stdout(io.StringIO()) as out, contextlib.redirect_stderr(io.StringIO()) as errors:
            answers(LINE)
        self.assertEqual(out.getvalue() + errors.getvalue(), "")

    def test_a_call_that_is_not_there(self):
        for number in (-1, 10, 1000):
            with self.assertRaises(ValueError):
                answers([0, number])


if __name__ == "__main__":
    unittest.main()
