"""Whole numbers: what is one, and reckoning with them that several modules need."""

from math import gcd


def is_whole(value):
    return isinstance(value, int) and not isinstance(value, bool)


def is_whole_between(value, low, high):
    return is_whole(value) and low <= value <= high


def are_whole(value, count):
    """Whether the value is a tuple of just so many whole numbers."""
    return isinstance(value, tuple) and len(value) == count and all([is_whole(part) for part in value])


def prime_parts(number):
    """The primes of which the number is the product, each as often as it stands there."""
    parts = []
    prime = 2
    while prime * prime <= number:
        if number % prime == 0:
            parts.append(prime)
            number = number // prime
        else:
            prime += 1
    if number > 1:
        parts.append(number)
    return parts


def power_modulo(base, exponent, modulus):
    """What the power of the base leaves modulo the modulus; the exponent is not below 0."""
    result = 1 % modulus
    square = base % modulus
    while exponent > 0:
        if exponent % 2 == 1:
            result = result * square % modulus
        square = square * square % modulus
        exponent = exponent // 2
    return result


def is_prime(number):
    """Whether the whole number is a prime; dividing goes up to its root."""
    return prime_parts(number) == [number]


def is_prime_between(value, low, high):
    """Whether the value, whatever it is, is a prime from low, at least 2, up to high."""
    return is_whole_between(value, low, high) and is_prime(value)


def bezout(number, other):
    """The pair s, t for which number s + other t is the greatest common divisor; both from 0 on, not both 0."""
    s, t, u, v = 1, 0, 0, 1
    while other > 0:
        quotient, rest = divmod(number, other)
        number, other = other, rest
        s, t, u, v = u, v, s - quotient * u, t - quotient * v
    return s, t


def fraction(number, divisor):
    """The fraction number / divisor in lowest terms; the divisor is above 0."""
    shared = gcd(number, divisor)
    return (number // shared, divisor // shared)
