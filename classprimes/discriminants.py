"""Discriminants, their parts, and the symbol of a discriminant at a number."""

from classprimes.arithmetic import is_whole_between, power_modulo, prime_parts
from classprimes.errors import InvalidDiscriminant, InvalidNumber


def is_discriminant(value):
    """Whether the value, whatever it is, is a discriminant."""
    return is_whole_between(value, -400, -3) and value % 4 in (0, 1)


def check_discriminant(discriminant):
    if not is_discriminant(discriminant):
        raise InvalidDiscriminant(discriminant)


def parts_of(discriminant):
    """The pair (d, f), d fundamental, with which the discriminant is f f d."""
    check_discriminant(discriminant)
    # The greatest one leaves a fundamental d: a g above 1 for d would make the greater f g.
    # None is above 11, as d is up to - 3.
    greatest = max([f for f in range(1, 12) if is_square_part(discriminant, f)])
    return (discriminant // (greatest * greatest), greatest)


def is_square_part(discriminant, f):
    """Whether the discriminant is f f times a discriminant."""
    return discriminant % (f * f) == 0 and is_discriminant(discriminant // (f * f))


def symbol(discriminant, number):
    """The symbol of the discriminant at a whole number from 1 to 10000."""
    check_discriminant(discriminant)
    if not is_whole_between(number, 1, 10000):
        raise InvalidNumber(number)
    result = 1
    for prime in prime_parts(number):
        result = result * symbol_at_prime(discriminant, prime)
    return result


def symbol_at_prime(discriminant, prime):
    if discriminant % prime == 0:
        return 0
    if prime == 2:
        # The square of an odd number leaves 1 modulo 8.
        return 1 if discriminant % 8 == 1 else -1
    # Modulo 4 each discriminant is a square, so modulo the prime alone it is decided;
    # there the power to half of prime - 1 leaves 1 just for the squares (Euler).
    return 1 if power_modulo(discriminant, (prime - 1) // 2, prime) == 1 else -1
