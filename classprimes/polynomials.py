"""Polynomials modulo a prime: their division, their factors, their roots.

A polynomial is the tuple of its coefficients from 0 to prime - 1, that of the power 0 first and none of the
last ones 0; so 0 is ().
"""

from classprimes.arithmetic import power_modulo


def residues(coefficients, prime):
    """The polynomial modulo the prime that these whole numbers are the coefficients of."""
    left = [number % prime for number in coefficients]
    while len(left) > 0 and left[-1] == 0:
        left.pop()
    return tuple(left)


def division(polynomial, divisor, prime):
    """The quotient and the rest; the divisor has 1 ahead."""
    degree = len(divisor) - 1
    rest = list(polynomial)
    places = max(len(rest) - degree, 0)
    quotient = [0] * places
    for place in reversed(range(places)):
        lead = rest[place + degree] % prime
        quotient[place] = lead
        for at in range(degree):
            rest[place + at] -= lead * divisor[at]
    return residues(quotient, prime), residues(rest[:degree], prime)


def rest_by(polynomial, divisor, prime):
    _, rest = division(polynomial, divisor, prime)
    return rest


def with_one_ahead(polynomial, prime):
    """The multiple with 1 ahead of a polynomial that is not 0."""
    reciprocal = power_modulo(polynomial[-1], prime - 2, prime)
    return residues([number * reciprocal for number in polynomial], prime)


def shared(polynomial, other, prime):
    """The greatest common divisor, with 1 ahead; the first one has 1 ahead."""
    while len(other) > 0:
        divisor = with_one_ahead(other, prime)
        polynomial, other = divisor, rest_by(polynomial, divisor, prime)
    return polynomial


def plus(polynomial, other, prime):
    longer, shorter = (polynomial, other) if len(polynomial) >= len(other) else (other, polynomial)
    total = list(longer)
    for at, number in enumerate(shorter):
        total[at] += number
    return residues(total, prime)


def times(polynomial, other, prime):
    product = [0] * (len(polynomial) + len(other))
    for at, number in enumerate(polynomial):
        for place, factor in enumerate(other):
            product[at + place] += number * factor
    return residues(product, prime)


def power_by(polynomial, exponent, divisor, prime):
    """The rest that the power of the polynomial leaves by the divisor, which has 1 ahead."""
    result = rest_by((1,), divisor, prime)
    square = rest_by(polynomial, divisor, prime)
    while exponent > 0:
        if exponent % 2 == 1:
            result = rest_by(times(result, square, prime), divisor, prime)
        square = rest_by(times(square, square, prime), divisor, prime)
        exponent = exponent // 2
    return result


def factors_of(polynomial, prime):
    """The pairs of the factors and their exponents, ascending; the polynomial has 1 ahead."""
    found = []
    left = polynomial
    degree = 0
    power = (0, 1)
    while len(left) > 1:
        degree += 1
        power = power_by(power, prime, left, prime)
        # Those of lesser degrees have been divided out.
        unlike = factors_of_degree(common_with_powers(left, power, prime), degree, prime)
        for factor in unlike:
            exponent, left = divided_out(left, factor, prime)
            found.append((factor, exponent))
    return tuple(sorted(found))


def divided_out(polynomial, factor, prime):
    """How often the factor stands in the polynomial, and what is left without it."""
    exponent = 0
    quotient, rest = division(polynomial, factor, prime)
    while len(rest) == 0:
        exponent += 1
        polynomial = quotient
        quotient, rest = division(polynomial, factor, prime)
    return exponent, polynomial


def is_irreducible(polynomial, prime):
    """Whether a polynomial with 1 ahead is no product of such of lesser degrees from 1 on."""
    return factors_of(polynomial, prime) == ((polynomial, 1),)


def common_with_powers(polynomial, power, prime):
    """What the polynomial has in common with x ^ (prime ^ k) - x; the power is the rest of x ^ (prime ^ k) by it."""
    # x ^ (prime ^ k) - x is the product of all irreducible ones of the degrees that divide k, each once.
    return shared(polynomial, plus(power, (0, -1), prime), prime)


def factors_of_degree(product, degree, prime):
    """The factors of a product of unlike irreducible ones of this degree, 1 ahead."""
    parts = [product] if len(product) > 1 else []
    # The digits of the numbers from the prime on are the polynomials that part it in two; there always is
    # one that does, of a degree below that of the product, and about half of all do.
    number = prime
    while len(parts) * degree < len(product) - 1:
        witness = digits(number, prime)
        parts = [piece for part in parts for piece in parted(part, degree, witness, prime)]
        number += 1
    return parts


def digits(number, base):
    """The digits of the number, the last one first."""
    found = []
    while number > 0:
        found.append(number % base)
        number = number // base
    return tuple(found)


def parted(product, degree, witness, prime):
    """The product, or two parts of it that the witness parts from one another."""
    if len(product) - 1 == degree:
        return [product]
    piece = shared(product, halving(witness, degree, product, prime), prime)
    other, _ = division(product, piece, prime)
    return [part for part in (piece, other) if len(part) > 1]


def halving(witness, degree, product, prime):
    """A polynomial that is a multiple of the factors at which the witness is of one of two kinds."""
    size = 1
    for _ in range(degree):
        size = size * prime
    if prime > 2:
        # Modulo each factor: whether the witness is a square.
        return plus(power_by(witness, size // 2, product, prime), (-1,), prime)
    # Modulo each factor: whether the sum of the conjugates is 0.
    total = ()
    for _ in range(degree):
        total = plus(total, witness, prime)
        witness = power_by(witness, 2, product, prime)
    return total


def roots_of_polynomial(polynomial, prime):
    """The residues at which it leaves 0, ascending; the polynomial has 1 ahead."""
    power = power_by((0, 1), prime, polynomial, prime)
    product = common_with_powers(polynomial, power, prime)
    return tuple(sorted([-factor[0] % prime for factor in factors_of_degree(product, 1, prime)]))
