"""Which classes take a prime."""

from classprimes.arithmetic import is_prime, is_prime_between
from classprimes.composing import order_of
from classprimes.discriminants import check_discriminant
from classprimes.errors import Divides, InvalidPrime
from classprimes.forms import check_form, classes, discriminant_of, reduced
from classprimes.values import takes


def check_prime(prime):
    check_prime_between(prime, 2, 10000)


def check_prime_between(prime, low, high):
    if not is_prime_between(prime, low, high):
        raise InvalidPrime(prime)


def check_beside(discriminant, prime):
    """Refuses what is no discriminant, no prime, or a prime that divides the discriminant."""
    check_discriminant(discriminant)
    check_prime(prime)
    if discriminant % prime == 0:
        raise Divides(prime)


def classes_of(discriminant, prime):
    """The reduced forms of the classes that take the prime, ascending."""
    check_beside(discriminant, prime)
    return tuple([form for form in classes(discriminant) if takes(form, prime)])


def order_at(discriminant, prime):
    """The order of the prime's class; None for the symbol - 1."""
    forms = classes_of(discriminant, prime)
    return order_of(forms[0]) if len(forms) > 0 else None


def is_taken(form, prime):
    """Whether the form takes the prime, which may divide the discriminant."""
    check_form(form)
    check_prime(prime)
    return takes(reduced(form), prime)


def first_prime(form):
    """The least prime that does not divide the discriminant and that the form takes."""
    small = reduced(form)
    discriminant = discriminant_of(form)
    prime = 2
    # Each class takes such primes.
    while discriminant % prime == 0 or not is_prime(prime) or not takes(small, prime):
        prime += 1
    return prime
