"""The desk: calls on two polynomials, one list of whole numbers in, one list of whole numbers out."""

from takenapart.parts import is_simple, parts
from takenapart.whole import common, content, how_often, trimmed, value

BEGIN = 0
SET = 1
DEGREE = 2
CONTENT = 3
COUNT = 4
PART = 5
POWER = 6
SIMPLE = 7
COMMON = 8
VALUE = 9

OUT_OF_RANGE = -1
POLYNOMIAL_IS_0 = -3

MOST_COEFFICIENTS = 17
FARTHEST_X = 60


class UnknownCall(ValueError):
    pass


# Coefficients are handed in modulo 2^32.
def signed(number):
    return number - 2 ** 32 if number >= 2 ** 31 else number


# f isn't 0.
def told_whole(f):
    return [len(f) - 1] + f + [0] * (MOST_COEFFICIENTS - len(f))


# Each method answers a list: the number that's answered, then what's told.
class Desk:
    def __init__(self):
        self.polynomial = []
        self.other = []

    def begin(self):
        self.polynomial = []
        self.other = []
        return [0]

    def put(self, which, length, coefficients):
        if which < 0 or which > 1 or length < 0 or length > MOST_COEFFICIENTS:
            return [OUT_OF_RANGE]
        polynomial = trimmed([signed(coefficient) for coefficient in coefficients])
        if which == 0:
            self.polynomial = polynomial
        else:
            self.other = polynomial
        return [0]

    # The calls that the polynomial refuses, ahead of all else, where it is 0.
    def of_polynomial(self, call):
        number = call[0]
        if len(self.polynomial) == 0:
            return [POLYNOMIAL_IS_0]
        if number == DEGREE:
            return [len(self.polynomial) - 1]
        if number == CONTENT:
            return [0, content(self.polynomial)]
        if number == COUNT:
            return [len(parts(self.polynomial))]
        if number == SIMPLE:
            return [1 if is_simple(self.polynomial) else 0]
        return self.of_part(number, call[1])

    def of_part(self, number, k):
        found = parts(self.polynomial)
        if k < 0 or k >= len(found):
            return [OUT_OF_RANGE]
        if number == PART:
            return told_whole(found[k])
        return [how_often(self.polynomial, found[k])]

    def of_both(self):
        if len(self.polynomial) == 0 and len(self.other) == 0:
            return [POLYNOMIAL_IS_0]
        return told_whole(common(self.polynomial, self.other))

    def value_at(self, x):
        if x < -FARTHEST_X or x > FARTHEST_X:
            return [OUT_OF_RANGE]
        word = 2 ** 64
        total = value(self.polynomial, x)
        return [0, total % word, total // word % word]

    def answer(self, call):
        number = call[0]
        if number == BEGIN:
            return self.begin()
        if number == SET:
            return self.put(call[1], call[2], call[3:])
        if number == COMMON:
            return self.of_both()
        if number == VALUE:
            return self.value_at(call[1])
        if number in (DEGREE, CONTENT, COUNT, PART, POWER, SIMPLE):
            return self.of_polynomial(call)
        raise UnknownCall(f"there is no call {number}")


# How many numbers the call at the place has, its own number among them.
def call_length(calls, place):
    number = calls[place]
    if number == SET:
        return 3 + max(calls[place + 2], 0)
    if number in (PART, POWER, VALUE):
        return 2
    return 1


def answers(calls):
    desk = Desk()
    told = []
    place = 0
    while place < len(calls):
        behind = place + call_length(calls, place)
        answer = desk.answer(calls[place:behind])
        told.append(len(answer))
        told.extend(answer)
        place = behind
    return told
