"""What the tests share: lines of calls written by name, and polynomials to hand in.

Polynomials are lists of coefficients, the one of x^0 first. Nothing here is drawn from the program but answers.
"""

from takenapart.desk import answers

BEGIN = [0]
DEGREE = [2]
CONTENT = [3]
COUNT = [4]

LEAST = -2147483648
GREATEST = 2147483647


def put(which, coefficients):
    if any(c < LEAST or c > GREATEST for c in coefficients):
        raise ValueError("the test hands in a coefficient out of range")
    return [1, which, len(coefficients)] + [c % 4294967296 for c in coefficients]


def answered(*calls):
    """The answers to begin and the calls, one list each, without that of begin."""
    line = list(BEGIN)
    for call in calls:
        line += call
    told = answers(line)
    split = []
    while told:
        length = told[0]
        split.append(told[1:length + 1])
        told = told[length + 1:]
    return split[1:]


def asked(coefficients, call):
    """The answer to the call where the polynomial has these coefficients."""
    return answered(put(0, coefficients), call)[1]


def times(*polynomials):
    product = [1]
    for f in polynomials:
        total = [0] * (len(product) + len(f) - 1)
        for i, a in enumerate(product):
            for j, b in enumerate(f):
                total[i + j] += a * b
        product = total
    return product


def power(f, exponent):
    return times(*[f] * exponent)


def sparse(terms):
    """The polynomial with these coefficients, by power of x."""
    return [terms.get(k, 0) for k in range(max(terms) + 1)]
