"""How the class polynomial falls apart modulo a prime."""

from classprimes.discriminants import check_discriminant
from classprimes.polynomials import factors_of, residues, roots_of_polynomial
from classprimes.primes import check_prime
from classprimes.singular import class_polynomial


def polynomial_modulo(discriminant, prime):
    """The class polynomial modulo the prime."""
    check_discriminant(discriminant)
    check_prime(prime)
    return residues(class_polynomial(discriminant), prime)


def factors(discriminant, prime):
    """The pairs of the coefficients of a factor and its exponent, ascending."""
    return factors_of(polynomial_modulo(discriminant, prime), prime)


def roots(discriminant, prime):
    """The roots modulo the prime, ascending."""
    return roots_of_polynomial(polynomial_modulo(discriminant, prime), prime)


def does_fall_wholly(discriminant, prime):
    """Whether the factors are unlike and of degree 1."""
    polynomial = polynomial_modulo(discriminant, prime)
    return len(roots_of_polynomial(polynomial, prime)) == len(polynomial) - 1
