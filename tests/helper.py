"""What the tests share: lines of calls written by name, and polynomials to hand in.

Polynomials are lists of coefficients, the one of x^0 first. Nothing here is drawn from the program but answers.
"""

import itertools

from takenapart.desk import answers

BEGIN = [0]
DEGREE = [2]
CONTENT = [3]
COUNT = [4]
SIMPLE = [7]
COMMON = [8]

LEAST = -2147483648
GREATEST = 2147483647


def part(k):
    return [5, k]


def power_of(k):
    return [6, k]


def value(x):
    return [9, x]


def put(which, coefficients):
    if any(c < LEAST or c > GREATEST for c in coefficients):
        raise ValueError("the test hands in a coefficient out of range")
    return [1, which, len(coefficients)] + [c % 4294967296 for c in coefficients]


def answered(*calls):
    """The answers to begin and the calls, one list each, without that of begin."""
    if len(calls) > 39 or len([call for call in calls if call[0] in (4, 5, 6, 7)]) > 10:
        raise ValueError("the test hands in more calls than a line holds")
    line = list(BEGIN)
    for call in calls:
        line += call
    told = answers(line)
    split = []
    while told:
        length = told[0]
        split.append(told[1:length + 1])
        told = told[length + 1:]
    return split[1:]


def asked(coefficients, call):
    """The answer to the call where the polynomial has these coefficients."""
    return answered(put(0, coefficients), call)[1]


def padded(f):
    """What part and common answer to tell f."""
    return [len(f) - 1] + f + [0] * (17 - len(f))


def by_powers(f, x):
    """What value answers: a second way, power by power."""
    total = sum(c * x ** k for k, c in enumerate(f)) % 2 ** 128
    return [0, total % 2 ** 64, total // 2 ** 64]


def taken_apart(f):
    """All parts that are told of f, each with how often it is said to go into it, in the order of k."""
    count = asked(f, COUNT)[0]
    pairs = []
    for k in range(count):
        told = answered(put(0, f), part(k), power_of(k))
        degree = told[1][0]
        if len(told[1]) != 18 or any(told[1][degree + 2:]) or len(told[2]) != 1:
            raise ValueError("an answer has the wrong form")
        pairs.append((told[1][1:degree + 2], told[2][0]))
    return pairs


def in_order(pairs):
    """Pairs of a part and its power in the order of the parts, step by step as the words say it."""
    ordered = []
    for pair in pairs:
        place = 0
        while place < len(ordered) and comes_first(ordered[place][0], pair[0]):
            place += 1
        ordered.insert(place, pair)
    return ordered


def comes_first(f, g):
    if len(f) != len(g):
        return len(f) < len(g)
    for k in range(len(f) - 1, -1, -1):
        if f[k] != g[k]:
            return f[k] < g[k]
    raise ValueError("the two are the same")


def times(*polynomials):
    product = [1]
    for f in polynomials:
        total = [0] * (len(product) + len(f) - 1)
        for i, a in enumerate(product):
            for j, b in enumerate(f):
                total[i + j] += a * b
        product = total
    return product


def power(f, exponent):
    return times(*[f] * exponent)


def sparse(terms):
    """The polynomial with these coefficients, by power of x."""
    return [terms.get(k, 0) for k in range(max(terms) + 1)]


def negative(f):
    return [-c for c in f]


# None of these can be taken apart: they are of degree 1, cyclotomic, or Eisenstein's rule holds for them or for their
# coefficients turned round.
LINEAR = [[0, 1], [1, 1], [-1, 1], [2, 1], [-3, 2], [1, 2], [5, 3]]
QUADRATIC = [[1, 0, 1], [1, 1, 1], [-2, 0, 1], [1, 0, 2], [3, 3, 2], [5, -5, 3]]
CUBIC = [[-2, 0, 0, 1], [3, -3, 0, 2], [7, 0, 7, 3]]
QUARTIC = [[1, 0, 0, 0, 1], [1, 1, 1, 1, 1], [2, 2, 0, 0, 3], [-10, 5, 0, 0, 7]]
EIGHTH = [sparse({8: 1, 0: 1}), sparse({8: 1, 0: -2}), sparse({8: 3, 4: 2, 1: -4, 0: 2}),
          sparse({8: 5, 7: -7, 3: 14, 0: 21})]

# The least polynomial of sqrt 2 + sqrt 3 + sqrt 5 + sqrt 7: modulo each prime it has parts of degree 1 and 2 alone.
FOUR_ROOTS = sparse({16: 1, 14: -136, 12: 6476, 10: -141912, 8: 1513334, 6: -7453176, 4: 13950764, 2: -5596840,
                     0: 46225})

# Modulo 17, 19, 23, 29, 31 and 37, the least primes that don't go into its first coefficient, this one is a product of
# sixteen polynomials of degree 1.
ALL_LINEAR_MODULO_SIX = [
    -24672032, -47707183, -53334108, -91055130, 20972143, 87363563, -4760620, -27668301, 41286157, 32242117,
    105512481, 108394786, -118426089, 72687174, -21370997, 107018160, 30030]

# Simple, by Eisenstein's rule with 3, turned round. The first has 13200000000 in it, though it times (x - 1)^4 can be
# handed in; the second 2400000000, though it times x - 1 and it times x^2 - x + 1 can be.
BEYOND_32_BITS = [300000000 * c for c in power([1, 1, 1, 1], 4)]
BEYOND_32_BITS[0] += 1
TRIANGLE_BEYOND_32_BITS = [300000000 * c for c in power([1] * 8, 2)]
TRIANGLE_BEYOND_32_BITS[0] += 1


def small_ones():
    """All but 0 of degree 5 and less with the coefficients -1, 0 and 1."""
    for f in itertools.product((-1, 0, 1), repeat=6):
        f = list(f)
        while f and f[-1] == 0:
            f.pop()
        if f:
            yield f


def divided(f, g):
    """f by g, which may have a longer row; None where g doesn't go into f with whole coefficients."""
    if len(g) > len(f):
        return None
    rest = list(f)
    found = [0] * (len(f) - len(g) + 1)
    for shift in range(len(f) - len(g), -1, -1):
        if rest[shift + len(g) - 1] % g[-1]:
            return None
        found[shift] = rest[shift + len(g) - 1] // g[-1]
        for k, c in enumerate(g):
            rest[shift + k] -= found[shift] * c
    return None if any(rest) else found


def small_divisors(limit):
    """All of degree 1, then all of degree 2, with a first coefficient above 0 and no farther from 0 than the limit."""
    reach = range(-limit, limit + 1)
    linear = [[a, b] for b in range(1, limit + 1) for a in reach]
    return linear + [[a, b, c] for c in range(1, limit + 1) for a in reach for b in reach]


# No part of degree 2 of one of small_ones has a coefficient above 2 * sqrt 6 < 5.
DIVISORS = small_divisors(4)


def parts_by_trial(f):
    """The parts of one of small_ones, each with its power, in order: a second way, that tries all that could be one."""
    pairs = []
    rest = f
    for g in DIVISORS:
        often = 0
        while divided(rest, g) is not None:
            often += 1
            rest = divided(rest, g)
        if often:
            pairs.append((g, often))
    if len(rest) > 1:
        pairs.append((rest if rest[-1] > 0 else negative(rest), 1))
    return in_order(pairs)
