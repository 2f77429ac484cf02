"""Certificates: claims that are so, each with a paper that the checker accepts."""

from classprimes.composing import composing_numbers
from classprimes.errors import NoSquare
from classprimes.falling import does_fall_wholly, factors, roots
from classprimes.forms import change_between, classes, discriminant_of, first_form, opposite, reduced, value_at
from classprimes.genera import twins
from classprimes.primes import check_beside, classes_of, order_at
from classprimes.singular import class_polynomial
from classprimes.steps import rings
from classprimes.values import solutions, solutions_of_reduced, takes


def certify_alike(form, other):
    """Whether the forms are alike."""
    change = change_between(form, other)
    if change is None:
        return (("unlike", form, other), ())
    return (("alike", form, other), change)


def certify_composed(form, other):
    """A FORM of the product of both classes."""
    third, numbers = composing_numbers(form, other)
    return (("composed", form, other, third), numbers)


def certify_order_of(form):
    """The order of the form's class."""
    one = first_form(discriminant_of(form))
    pairs = []
    ahead = form
    while reduced(ahead) != one:
        pair = composing_numbers(ahead, form)
        pairs.append(pair)
        ahead = pair[0]
    return (("has order", form, len(pairs) + 1), tuple(pairs))


def certify_taken(form, prime):
    """Whether the form takes the prime."""
    discriminant = discriminant_of(form)
    check_beside(discriminant, prime)
    places = solutions(form, prime)
    if len(places) > 0:
        return (("taken", form, prime), places[0])
    claim = ("not taken", form, prime)
    others = classes_of(discriminant, prime)
    if len(others) == 0:
        return (claim, ())
    x, y = solutions_of_reduced(others[0], prime)[0]
    return (claim, (others[0], x, y))


def certify_residues(discriminant):
    """Whether residues tell which primes the first form takes."""
    forms = classes(discriminant)
    changes = [change_between(form, opposite(form)) for form in forms]
    others = [form for form, change in zip(forms, changes) if change is None]
    if len(others) > 0:
        return (("residues do not tell", discriminant), (others[0],))
    return (("residues tell", discriminant), tuple(changes))


def certify_twins(discriminant, number):
    """Primes with one residue modulo the number that the first form and another one of its genus take; or None."""
    told = twins(discriminant, number)
    if told is None:
        return None
    one, other = told
    first = first_form(discriminant)
    form = [each for each in classes(discriminant) if takes(each, other)][0]
    x, y = solutions_of_reduced(first, one)[0]
    z, w = solutions_of_reduced(form, other)[0]
    u, v = place_of_residue(first, other, -discriminant)
    return (("twins", discriminant, number, one, other), (x, y, form, z, w, u, v))


def place_of_residue(first, number, size):
    """Where the value of the first form of the discriminant - size has one residue modulo the size with the number."""
    # Each residue of its genus is left at y = 0 or y = 1.
    return [(x, y) for x in range(size) for y in (0, 1) if (value_at(first, x, y) - number) % size == 0][0]


def certify_polynomial(discriminant):
    """The class polynomial."""
    return (("class polynomial", discriminant, class_polynomial(discriminant)), ())


def certify_order(discriminant, prime):
    """The order of the prime's class."""
    order = order_at(discriminant, prime)
    if order is None:
        raise NoSquare(prime)
    return (("order", discriminant, prime, order), tuple([factor for factor, _ in factors(discriminant, prime)]))


def certify_falls(discriminant, prime):
    """Whether the class polynomial falls apart wholly modulo the prime."""
    check_beside(discriminant, prime)
    if does_fall_wholly(discriminant, prime):
        return (("falls wholly", discriminant, prime), roots(discriminant, prime))
    told = factors(discriminant, prime)
    others = [factor for factor, exponent in told if len(factor) > 2 or exponent > 1]
    return (("does not fall wholly", discriminant, prime), (others[0],))


def certify_rings(discriminant, prime, step):
    """All rings by the step that the roots modulo the prime make."""
    return (("rings", discriminant, prime, step, rings(discriminant, prime, step)), ())
