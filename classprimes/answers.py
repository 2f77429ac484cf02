"""The console's answers to commands of numbers: they hang on no name that is kept."""

from classprimes.arithmetic import is_prime_between, is_whole_between
from classprimes.composing import kind_of
from classprimes.counts import hurwitz
from classprimes.curves import curves_with
from classprimes.discriminants import is_discriminant
from classprimes.errors import Divides, NoSquare, NotFirst
from classprimes.falling import factors, roots
from classprimes.forms import classes
from classprimes.genera import do_residues_tell, genera
from classprimes.primes import order_at
from classprimes.singular import class_polynomial
from classprimes.steps import rings
from classprimes.texts import form_text
from classprimes.words import DIGITS


def numbers_text(numbers):
    return " ".join([str(number) for number in numbers])


def yes_or_no(is_so):
    return "yes" if is_so else "no"


def tell_classes(discriminant):
    return "; ".join([form_text(form) for form in classes(discriminant)])


def tell_kind(discriminant):
    kind = kind_of(discriminant)
    return numbers_text(kind) if len(kind) > 0 else "one"


def tell_genera(discriminant):
    return str(len(genera(discriminant)))


def tell_whether_residues_tell(discriminant):
    return yes_or_no(do_residues_tell(discriminant))


def tell_polynomial(discriminant):
    return numbers_text(class_polynomial(discriminant))


def tell_order_at(prime, discriminant):
    if discriminant % prime == 0:
        return "divides"
    order = order_at(discriminant, prime)
    return "no square" if order is None else f"order {order}"


def tell_degrees(prime, discriminant):
    told = factors(discriminant, prime)
    return numbers_text(sorted([len(factor) - 1 for factor, exponent in told for _ in range(exponent)]))


def tell_roots(prime, discriminant):
    told = roots(discriminant, prime)
    return numbers_text(told) if len(told) > 0 else "none"


def tell_rings(step, prime, discriminant):
    try:
        told = rings(discriminant, prime, step)
    except (Divides, NotFirst, NoSquare):
        return "none"
    return "; ".join([numbers_text(ring) for ring in told])


def tell_hurwitz(number):
    count, divisor = hurwitz(number)
    return str(count) if divisor == 1 else f"{count}/{divisor}"


def tell_curves(prime, number):
    return str(curves_with(prime, number))


# What stands behind each command: D is a discriminant, M a step; for the others the bounds are told below.
ARGUMENTS = {
    "classes": "D", "kind": "D", "genera": "D", "tells": "D", "polynomial": "D", "prime": "PD", "falls": "PD",
    "roots": "PD", "rings": "MPD", "hurwitz": "N", "curves": "FC"}
ANSWERS = {
    "classes": tell_classes, "kind": tell_kind, "genera": tell_genera, "tells": tell_whether_residues_tell,
    "polynomial": tell_polynomial, "prime": tell_order_at, "falls": tell_degrees, "roots": tell_roots,
    "rings": tell_rings, "hurwitz": tell_hurwitz, "curves": tell_curves}
PRIMES = {"P": (2, 10000), "F": (5, 1000)}
NUMBERS = {"M": (2, 3), "N": (0, 10000), "C": (0, 2000)}


def answer_by_numbers(words):
    """The answer to the words of one of these commands."""
    letters = ARGUMENTS[words[0]]
    if len(words) != 1 + len(letters):
        return "?"
    arguments = [argument_told(word, letter) for word, letter in zip(words[1:], letters)]
    if any([argument is None for argument in arguments]):
        return "?"
    answer = ANSWERS[words[0]]
    return answer(*arguments)


def argument_told(word, letter):
    """What the word tells, None if it is not as the letter asks."""
    if letter == "D":
        return discriminant_told(word)
    number = number_told(word)
    if letter in PRIMES:
        low, high = PRIMES[letter]
        return number if is_prime_between(number, low, high) else None
    low, high = NUMBERS[letter]
    return number if is_whole_between(number, low, high) else None


def discriminant_told(word):
    """The discriminant that the word tells, - ahead; None if it tells none."""
    number = number_told(word[1:])
    if word[0] != "-" or number is None or not is_discriminant(-number):
        return None
    return -number


def number_told(word):
    """The whole number that the word tells without noughts ahead; None if it tells none or a great one."""
    # None of more than five figures is let anywhere.
    if len(word) == 0 or len(word) > 5 or any([sign not in DIGITS for sign in word]):
        return None
    return int(word) if word == "0" or word[0] != "0" else None
