"""Parts modulo a prime brought up to parts modulo a high power of it, in Hensel's way."""

from takenapart.modular import added, difference, divided, inverse, product_rest, reduced


# Squared, not multiplied: a step of lifted squares its modulus.
def power_above(prime, limit):
    power = prime
    while power <= limit:
        power = power * power
    return power


# f and the part are monic. Modulo the prime the part goes into f, and has only numbers in common with the quotient.
# What is given back goes into f modulo last, which comes from power_above, and is the part modulo the prime.
def lifted(f, part, prime, last):
    found = part
    turned = inverse(divided(reduced(f, prime), part, prime)[0], part, prime)
    modulus = prime
    while modulus < last:
        # The rest is 0 modulo the old modulus, and turned times the quotient leaves 1 there: so the step is exact
        # modulo its square, and so is what turned becomes.
        modulus = modulus * modulus
        rest = divided(f, found, modulus)[1]
        found = added(found, product_rest(turned, rest, found, modulus), modulus)
        nearly_one = product_rest(turned, divided(f, found, modulus)[0], found, modulus)
        turned = product_rest(turned, difference([2], nearly_one, modulus), found, modulus)
    return found
