"""Polynomials with whole coefficients.

A polynomial is a list of its coefficients, the one of x^0 first, without zeros at the end; 0 is the empty list.
"""


def trimmed(coefficients):
    length = len(coefficients)
    while length > 0 and coefficients[length - 1] == 0:
        length -= 1
    return coefficients[:length]


def common_divisor(a, b):
    greater = abs(a)
    lesser = abs(b)
    while lesser != 0:
        rest = greater % lesser
        greater = lesser
        lesser = rest
    return greater


# f isn't 0: no number is the greatest that goes into all coefficients of 0.
def content(f):
    greatest = 0
    for coefficient in f:
        greatest = common_divisor(greatest, coefficient)
    return -greatest if f[-1] < 0 else greatest


def primitive(f):
    divisor = content(f)
    return [coefficient // divisor for coefficient in f]


def derivative(f):
    return [power * coefficient for power, coefficient in enumerate(f)][1:]


def product(f, g):
    if len(f) == 0 or len(g) == 0:
        return []
    total = [0] * (len(f) + len(g) - 1)
    for k, a in enumerate(f):
        for j, b in enumerate(g):
            total[k + j] += a * b
    return total


# None says that g, which isn't 0, doesn't go into f with whole coefficients.
def quotient(f, g):
    rest = list(f)
    top = len(g) - 1
    found = [0] * max(len(f) - top, 0)
    for shift in range(len(found) - 1, -1, -1):
        if rest[shift + top] % g[top] != 0:
            return None
        factor = rest[shift + top] // g[top]
        found[shift] = factor
        for k, coefficient in enumerate(g):
            rest[shift + k] -= factor * coefficient
    return None if any(rest) else found


# f is multiplied at each step, so that no fraction comes up: the rest is that of f times a power of g's first
# coefficient.
def scaled_rest(f, g):
    rest = f
    while len(rest) >= len(g):
        first = rest[-1]
        shift = len(rest) - len(g)
        rest = [g[-1] * coefficient for coefficient in rest]
        for k, coefficient in enumerate(g):
            rest[shift + k] -= first * coefficient
        rest = trimmed(rest)
    return rest


# f and g aren't both 0. Numbers that go into both are left out.
def primitive_common(f, g):
    above = f
    below = g
    while len(below) > 0:
        rest = scaled_rest(above, below)
        above = below
        # Kept as it is, the rest would have coefficients twice as long at each turn.
        below = primitive(rest) if len(rest) > 0 else rest
    return primitive(above)


# f and g aren't both 0. The greatest number that goes into all coefficients of both goes into what they have in common.
def common(f, g):
    number = abs(content(f + g))
    return [number * coefficient for coefficient in primitive_common(f, g)]


# g is of degree 1 or more and f isn't 0, so the degree comes down until g goes in no more.
def how_often(f, g):
    often = 0
    rest = quotient(f, g)
    while rest is not None:
        often += 1
        rest = quotient(rest, g)
    return often


def value(f, x):
    total = 0
    for coefficient in f[::-1]:
        total = total * x + coefficient
    return total
