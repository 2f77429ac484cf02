"""Genera: the residues that forms leave, and what they tell of primes."""

from math import gcd

from classprimes.arithmetic import is_prime, is_whole_between
from classprimes.composing import change_to_lead_without, own_opposites
from classprimes.discriminants import check_discriminant
from classprimes.errors import InvalidNumber
from classprimes.forms import check_form, classes, discriminant_of, first_form, led_by, value_at
from classprimes.values import takes


def residues_of(form):
    """The residues modulo - D, without a common divisor with D above 1, that the values leave; ascending."""
    check_form(form)
    size = -discriminant_of(form)
    alike = led_by(form, change_to_lead_without(form, size))
    # 4 a times a value is (2 a x + b y) ^ 2 + size y y, and a shares no divisor with the size:
    # each value leaves the residue of one at y = 0, or at y = 1 if its own y is odd.
    left = [value_at(alike, x, y) % size for x in range(size) for y in (0, 1)]
    return tuple(sorted({residue for residue in left if gcd(residue, size) == 1}))


def genera(discriminant):
    """The pairs of the residues of a genus and of its reduced forms, ascending."""
    check_discriminant(discriminant)
    forms = {}
    for form in classes(discriminant):
        forms.setdefault(residues_of(form), []).append(form)
    return tuple(sorted([(residues, tuple(forms[residues])) for residues in forms]))


def do_residues_tell(discriminant):
    """Whether residues alone tell which primes the first form takes."""
    return own_opposites(discriminant) == classes(discriminant)


def twins(discriminant, number):
    """Primes P and Q with one residue modulo the number, P taken by the first form, Q by another of its genus."""
    check_discriminant(discriminant)
    if not is_whole_between(number, 1, 1000):
        raise InvalidNumber(number)
    if do_residues_tell(discriminant):
        return None
    first = first_form(discriminant)
    genus = residues_of(first)
    taken = {}
    others = {}
    for prime in range(2, 10 ** 6 + 1):
        if prime % -discriminant in genus and is_prime(prime):
            # Some class of the first genus takes it. For all discriminants and numbers that are let
            # the primes below 25000 are enough.
            residue = prime % number
            side = taken if takes(first, prime) else others
            side[residue] = prime
            if residue in taken and residue in others:
                return (taken[residue], others[residue])
