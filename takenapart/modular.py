"""Polynomials with coefficients modulo a number.

Their form is that of takenapart.whole, each coefficient from 0 to the modulus less 1. One is monic if its first
coefficient is 1: by such a one can be divided whatever the modulus.
"""

from takenapart.whole import product, trimmed


def reduced(f, modulus):
    return trimmed([coefficient % modulus for coefficient in f])


def scaled(f, number, modulus):
    return reduced([number * coefficient for coefficient in f], modulus)


def added(f, g, modulus):
    total = f + [0] * max(len(g) - len(f), 0)
    for k, coefficient in enumerate(g):
        total[k] += coefficient
    return reduced(total, modulus)


def difference(f, g, modulus):
    return added(f, [-coefficient for coefficient in g], modulus)


# Gives back the quotient and the rest; g is monic.
def divided(f, g, modulus):
    rest = list(f)
    top = len(g) - 1
    found = [0] * max(len(f) - top, 0)
    for shift in range(len(found) - 1, -1, -1):
        factor = rest[shift + top] % modulus
        found[shift] = factor
        for k, coefficient in enumerate(g):
            rest[shift + k] -= factor * coefficient
    return (trimmed(found), reduced(rest, modulus))


def rest_by(f, g, modulus):
    return divided(f, g, modulus)[1]


def product_rest(f, h, g, modulus):
    return rest_by(product(f, h), g, modulus)


# The number and the modulus have only 1 in common.
def number_inverse(number, modulus):
    above = modulus
    below = number % modulus
    above_factor = 0
    below_factor = 1
    while below != 0:
        # Each of above and below is its factor times the number, modulo the modulus.
        often = above // below
        rest = above - often * below
        rest_factor = above_factor - often * below_factor
        above = below
        above_factor = below_factor
        below = rest
        below_factor = rest_factor
    return above_factor % modulus


def monic(f, modulus):
    return scaled(f, number_inverse(f[-1], modulus), modulus)


# f isn't 0. Only modulo a prime can every polynomial but 0 be made monic.
def monic_common(f, g, prime):
    above = monic(f, prime)
    below = g
    while len(below) > 0:
        divisor = monic(below, prime)
        below = rest_by(above, divisor, prime)
        above = divisor
    return above


# What f is multiplied by to leave the rest 1 by g. g is monic, of degree 1 or more, and has only numbers in common
# with f.
def inverse(f, g, prime):
    above = g
    below = rest_by(f, g, prime)
    above_factor = []
    below_factor = [1]
    while len(below) > 0:
        # Each of above and below is its factor times f, but for a multiple of g.
        scale = number_inverse(below[-1], prime)
        divisor = scaled(below, scale, prime)
        divisor_factor = scaled(below_factor, scale, prime)
        pair = divided(above, divisor, prime)
        below = pair[1]
        below_factor = difference(above_factor, product(pair[0], divisor_factor), prime)
        above = divisor
        above_factor = divisor_factor
    return rest_by(above_factor, g, prime)
