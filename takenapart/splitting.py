"""Polynomials taken apart modulo a prime, in Berlekamp's way.

f is monic, of degree 1 or more, and has no part twice modulo the prime. A polynomial v of lesser degree is fixed if
v^prime leaves the rest v by f. That is so just where v leaves a number as its rest by each part of f: so there are as
many fixed ones that don't depend on one another as f has parts, and what f has in common with v less each number takes
it apart.
"""

from takenapart.modular import difference, divided, monic_common, number_inverse, product_rest, rest_by


# The rests of x^0, x^prime, x^(2 prime) and so on by f: v^prime is v with these in the place of x^0, x^1, x^2.
def power_rows(f, prime):
    step = [1]
    for turn in range(prime):
        step = rest_by([0] + step, f, prime)
    rows = [[1]]
    while len(rows) < len(f) - 1:
        rows.append(product_rest(rows[-1], step, f, prime))
    return rows


# What v's coefficients must meet for v to be fixed: each row, times them, is 0.
def fixed_equations(f, prime):
    degree = len(f) - 1
    rows = [row + [0] * (degree - len(row)) for row in power_rows(f, prime)]
    equations = []
    for k in range(degree):
        equation = [row[k] for row in rows]
        equation[k] = (equation[k] - 1) % prime
        equations.append(equation)
    return equations


# The pivot has 1 in the column.
def without_column(row, column, pivot, prime):
    factor = row[column]
    if factor == 0:
        return row
    return [(a - factor * b) % prime for a, b in zip(row, pivot)]


def first_filled(row):
    for column, number in enumerate(row):
        if number != 0:
            return column
    return None


# The equations brought into a form in which each belongs to a column that has 1 there and 0 in all the others.
def solved(equations, prime):
    pivots = {}
    for equation in equations:
        row = equation
        for column, pivot in pivots.items():
            row = without_column(row, column, pivot, prime)
        chosen = first_filled(row)
        if chosen is not None:
            scale = number_inverse(row[chosen], prime)
            row = [scale * number % prime for number in row]
            for column in list(pivots):
                pivots[column] = without_column(pivots[column], chosen, row, prime)
            pivots[chosen] = row
    return pivots


def fixed_basis(f, prime):
    degree = len(f) - 1
    pivots = solved(fixed_equations(f, prime), prime)
    basis = []
    for free in range(degree):
        if free not in pivots:
            fixed = [0] * degree
            fixed[free] = 1
            for column, pivot in pivots.items():
                fixed[column] = -pivot[free] % prime
            basis.append(fixed)
    return basis


def pieces_by(f, fixed, prime):
    pieces = []
    rest = f
    for number in range(prime):
        if len(rest) == 1:
            break
        piece = monic_common(rest, difference(fixed, [number], prime), prime)
        if len(piece) > 1:
            pieces.append(piece)
            rest = divided(rest, piece, prime)[0]
    return pieces


# The basis is that of fixed_basis, handed in because its length is asked for ahead of this.
def modular_parts(f, basis, prime):
    pieces = [f]
    for fixed in basis:
        if len(pieces) == len(basis):
            break
        finer = []
        for piece in pieces:
            finer.extend(pieces_by(piece, rest_by(fixed, piece, prime), prime))
        pieces = finer
    return pieces
