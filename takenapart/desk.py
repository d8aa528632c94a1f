"""The desk: calls on two polynomials, one list of whole numbers in, one list of whole numbers out."""

from takenapart.parts import parts
from takenapart.whole import content, trimmed

BEGIN = 0
SET = 1
DEGREE = 2
CONTENT = 3
COUNT = 4

OUT_OF_RANGE = -1
POLYNOMIAL_IS_0 = -3

MOST_COEFFICIENTS = 17


class UnknownCall(ValueError):
    pass


# Coefficients are handed in modulo 2^32.
def signed(number):
    return number - 2 ** 32 if number >= 2 ** 31 else number


# Each method answers a list: the number that's answered, then what's told.
class Desk:
    def __init__(self):
        self.polynomial = []
        self.other = []

    def begin(self):
        self.polynomial = []
        self.other = []
        return [0]

    def put(self, which, length, coefficients):
        if which < 0 or which > 1 or length < 0 or length > MOST_COEFFICIENTS:
            return [OUT_OF_RANGE]
        polynomial = trimmed([signed(coefficient) for coefficient in coefficients])
        if which == 0:
            self.polynomial = polynomial
        else:
            self.other = polynomial
        return [0]

    def asked(self, number):
        if number not in (DEGREE, CONTENT, COUNT):
            raise UnknownCall(f"there is no call {number}")
        if len(self.polynomial) == 0:
            return [POLYNOMIAL_IS_0]
        if number == DEGREE:
            return [len(self.polynomial) - 1]
        if number == CONTENT:
            return [0, content(self.polynomial)]
        return [len(parts(self.polynomial))]


def answers(calls):
    desk = Desk()
    told = []
    place = 0
    while place < len(calls):
        number = calls[place]
        place += 1
        if number == BEGIN:
            answer = desk.begin()
        elif number == SET:
            which = calls[place]
            length = calls[place + 1]
            start = place + 2
            place = start + max(length, 0)
            answer = desk.put(which, length, calls[start:place])
        else:
            answer = desk.asked(number)
        told.append(len(answer))
        told.extend(answer)
    return told
