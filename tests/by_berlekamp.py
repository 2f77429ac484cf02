"""Polynomials modulo a prime in other ways than the program's: dividing by all of them, and Berlekamp's matrix."""

import itertools


def trimmed(coefficients, prime):
    left = [number % prime for number in coefficients]
    while left and left[-1] == 0:
        left.pop()
    return left


def product_by_hand(polynomials, prime):
    """The product, as a tuple of coefficients from 0 to prime - 1."""
    total = [1]
    for polynomial in polynomials:
        sums = [0] * (len(total) + len(polynomial) - 1)
        for at, number in enumerate(total):
            for place, other in enumerate(polynomial):
                sums[at + place] += number * other
        total = [number % prime for number in sums]
    return tuple(total)


def value_by_horner(polynomial, residue, prime):
    value = 0
    for number in reversed(polynomial):
        value = (value * residue + number) % prime
    return value


def roots_by_trying(polynomial, prime):
    return tuple(residue for residue in range(prime) if value_by_horner(polynomial, residue, prime) == 0)


def rest_by_hand(polynomial, divisor, prime):
    """The rest; the divisor may have any number ahead."""
    left = trimmed(polynomial, prime)
    reciprocal = pow(divisor[-1], -1, prime)
    while len(left) >= len(divisor):
        lead = left[-1] * reciprocal
        for at, number in enumerate(divisor, len(left) - len(divisor)):
            left[at] -= lead * number
        left = trimmed(left, prime)
    return left


def has_square(polynomial, prime):
    """Whether a square of a polynomial of a degree from 1 on divides it: it shares a factor with its derivative."""
    one = list(polynomial)
    other = trimmed([at * number for at, number in enumerate(polynomial)][1:], prime)
    while other:
        one, other = other, rest_by_hand(one, other, prime)
    return len(one) > 1


def rank(rows, prime):
    rows, count = [list(row) for row in rows], 0
    for column in range(len(rows)):
        pivot = next((at for at in range(count, len(rows)) if rows[at][column]), None)
        if pivot is not None:
            rows[count], rows[pivot] = rows[pivot], rows[count]
            reciprocal = pow(rows[count][column], -1, prime)
            for at in range(count + 1, len(rows)):
                factor = rows[at][column] * reciprocal % prime
                rows[at] = [(one - factor * other) % prime for one, other in zip(rows[at], rows[count])]
            count += 1
    return count


def is_irreducible_by_matrix(polynomial, prime):
    """As many factors as what the prime's power leaves as it is has dimensions (Berlekamp)."""
    degree = len(polynomial) - 1
    rows = []
    power = [1] + [0] * (degree - 1)
    for _ in range(degree):
        rows.append(list(power))
        for _ in range(prime):
            # Times x: what stands at the power of the degree is put back by the polynomial.
            lead = power[-1]
            power = [(one - lead * other) % prime for one, other in zip([0] + power[:-1], polynomial)]
    for at in range(degree):
        rows[at][at] -= 1
    return rank(rows, prime) == degree - 1 and not has_square(polynomial, prime)


def all_of_degree(degree, prime):
    """All polynomials of this degree with 1 ahead."""
    return [(*lower, 1) for lower in itertools.product(range(prime), repeat=degree)]


def is_irreducible_by_dividing(polynomial, prime):
    return not any(
        rest_by_hand(polynomial, divisor, prime) == []
        for degree in range(1, (len(polynomial) - 1) // 2 + 1) for divisor in all_of_degree(degree, prime))


def is_irreducible_by_hand(polynomial, prime):
    degree = len(polynomial) - 1
    if prime ** (degree // 2) <= 200:
        return is_irreducible_by_dividing(polynomial, prime)
    return is_irreducible_by_matrix(polynomial, prime)
