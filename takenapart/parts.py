"""Polynomials with whole coefficients taken apart, in Zassenhaus's way.

A polynomial is taken apart modulo a prime; these pieces are brought up to a power of the prime so high that whole
coefficients can be read off; then they are joined to what goes into the polynomial. But for the last two, f is
primitive, of degree 1 or more, has a first coefficient above 0, and no part twice.
"""

from takenapart.lifting import lifted, power_above
from takenapart.modular import monic, monic_common, reduced
from takenapart.splitting import fixed_basis, modular_parts
from takenapart.whole import derivative, primitive, primitive_common, product, quotient

# The fewer pieces there are modulo the prime, the fewer ways there are to join them: so more than one is looked at.
PRIMES_LOOKED_AT = 6


def is_prime(number):
    divisor = 2
    while divisor * divisor <= number:
        if number % divisor == 0:
            return False
        divisor += 1
    return True


# Modulo another prime the parts of f may lose their degree, or run into one another.
def keeps_apart(f, prime):
    if f[-1] % prime == 0:
        return False
    return len(monic_common(reduced(f, prime), reduced(derivative(f), prime), prime)) == 1


# Gives back a prime and the fixed_basis there. All primes but those that go into one number, f's discriminant times
# its first coefficient, keep apart: so the loop ends.
def best_prime(f):
    best = None
    looked_at = 0
    prime = 1
    while looked_at < PRIMES_LOOKED_AT:
        prime += 1
        if is_prime(prime) and keeps_apart(f, prime):
            looked_at += 1
            basis = fixed_basis(monic(f, prime), prime)
            if best is None or len(basis) < len(best[1]):
                best = (prime, basis)
            if len(basis) == 1:
                break
    return best


# Mignotte's limit: where f is g times h, no coefficient of g times h's first one is farther from 0.
def coefficient_limit(f):
    limit = sum([abs(coefficient) for coefficient in f])
    for turn in range(len(f) - 1):
        limit = 2 * limit
    return limit


# Whole coefficients may be below 0: each stands for the number nearest to 0.
def nearest(number, modulus):
    rest = number % modulus
    return rest - modulus if 2 * rest > modulus else rest


# The coefficient of x^0 alone rules out nearly all choices, and costs far less than the whole product.
def last_may_fit(f, chosen, modulus):
    number = f[-1]
    for piece in chosen:
        number = number * piece[0] % modulus
    last = nearest(number, modulus)
    if last == 0:
        return f[0] == 0
    return f[-1] * f[0] % last == 0


# The pieces are monic, a part need not be: f's first coefficient is a multiple of the part's, and what is too much
# goes out again with the content.
def joined(f, chosen, modulus):
    total = [f[-1]]
    for piece in chosen:
        total = reduced(product(total, piece), modulus)
    return primitive([nearest(coefficient, modulus) for coefficient in total])


# The choice of as many places below the count that comes next in order; None behind the last.
def choice_behind(choice, count):
    size = len(choice)
    k = size - 1
    while k >= 0 and choice[k] == count - size + k:
        k -= 1
    if k < 0:
        return None
    return choice[:k] + [choice[k] + 1 + j for j in range(size - k)]


# Gives back the places of the pieces that are joined, and the part; None if there is none of this size.
def find_part(f, pieces, size, modulus):
    choice = list(range(size))
    while choice is not None:
        chosen = [pieces[place] for place in choice]
        if last_may_fit(f, chosen, modulus):
            found = joined(f, chosen, modulus)
            if quotient(f, found) is not None:
                return (choice, found)
        choice = choice_behind(choice, len(pieces))
    return None


# Fewer pieces are tried ahead of more, so what is found can't be taken apart any more; and where no half of the pieces
# or less can be joined, neither can the rest.
def whole_parts(f, pieces, modulus):
    found = []
    rest = f
    left = pieces
    size = 1
    while 2 * size <= len(left):
        pair = find_part(rest, left, size, modulus)
        if pair is None:
            size += 1
        else:
            found.append(pair[1])
            rest = quotient(rest, pair[1])
            left = [piece for place, piece in enumerate(left) if place not in pair[0]]
    return found + [rest]


def simple_parts(f):
    pair = best_prime(f)
    prime = pair[0]
    basis = pair[1]
    if len(basis) == 1:
        return [f]
    modulus = power_above(prime, 2 * coefficient_limit(f))
    image = monic(f, modulus)
    pieces = [lifted(image, piece, prime, modulus) for piece in modular_parts(monic(f, prime), basis, prime)]
    return whole_parts(f, pieces, modulus)


# By degree, then by the coefficients, that of the highest power of x first: so lists are compared.
def order(f):
    return [len(f)] + f[::-1]


# f is any polynomial but 0. What it has in common with its derivative is what makes parts come more than once.
def parts(f):
    whole = primitive(f)
    once = quotient(whole, primitive_common(whole, derivative(whole)))
    return sorted(simple_parts(once), key=order) if len(once) > 1 else []


# f is any polynomial but 0. Parts are simple, so where one is f itself, f is; and no other goes into a simple f.
def is_simple(f):
    return parts(f) == [f]
