"""The checker of claims: it multiplies out what papers tell, whoever wrote them."""

from classprimes.arithmetic import are_whole, is_prime_between, is_whole, is_whole_between
from classprimes.discriminants import is_discriminant, symbol_at_prime
from classprimes.errors import NoSquare, NotFirst
from classprimes.forms import (
    classes, discriminant_of, first_form, is_change, is_form, led_by, opposite, reduced, value_at)
from classprimes.polynomials import is_irreducible, residues, rest_by, times
from classprimes.singular import class_polynomial
from classprimes.steps import rings


def are_all_whole(value):
    """Whether the value, whatever it is, is a tuple of whole numbers."""
    return isinstance(value, tuple) and are_whole(value, len(value))


def has_parts(value, count):
    """Whether the value, whatever it is, is a tuple of so many things."""
    return isinstance(value, tuple) and len(value) == count


def is_form_of(value, discriminant):
    return is_form(value) and discriminant_of(value) == discriminant


def is_prime_beside(value, discriminant, highest):
    return is_prime_between(value, 2, highest) and discriminant % value != 0


def is_claim_modulo(discriminant, prime):
    return is_discriminant(discriminant) and is_prime_beside(prime, discriminant, 10000)


def is_ascending(row):
    return all([one < other for one, other in zip(row, row[1:])])


def is_alike(form, other, paper):
    return is_form(form) and is_form(other) and is_change(paper) and led_by(form, paper) == other


def is_unlike(form, other, paper):
    return is_form(form) and is_form(other) and reduced(form) != reduced(other) and has_parts(paper, 0)


def is_composed(form, other, third, paper):
    if not is_form(form):
        return False
    discriminant = discriminant_of(form)
    return is_form_of(other, discriminant) and is_form_of(third, discriminant) and composes(form, other, third, paper)


def composes(form, other, third, numbers):
    """Whether these are eight whole numbers that compose the third FORM of the two others."""
    if not are_whole(numbers, 8):
        return False
    upper = numbers[:4]
    lower = numbers[4:]
    minors = [upper[0] * lower[at] - upper[at] * lower[0] for at in (1, 2)]
    expected = [first * second for first in form for second in other]
    return minors == [form[0], other[0]] and multiplied_out(third, upper, lower) == expected


def multiplied_out(form, upper, lower):
    """The coefficients of the form at the sums of upper and lower numbers times x z, x w, y z, y w.

    They are told in the order of the products of x x, x y, y y and z z, z w, w w.
    """
    a, b, c = form
    coefficients = [0] * 9
    for at in range(4):
        for place in range(4):
            # The number of the y in both, times 3, and of the w in both.
            power = 3 * (at // 2 + place // 2) + at % 2 + place % 2
            middle = b * upper[at] * lower[place]
            coefficients[power] += a * upper[at] * upper[place] + middle + c * lower[at] * lower[place]
    return coefficients


def has_order(form, count, paper):
    if not is_form(form) or not is_whole(count) or not has_parts(paper, count - 1):
        return False
    discriminant = discriminant_of(form)
    one = first_form(discriminant)
    ahead = form
    for pair in paper:
        if reduced(ahead) == one or not has_parts(pair, 2):
            return False
        third, numbers = pair
        if not is_form_of(third, discriminant) or not composes(ahead, form, third, numbers):
            return False
        ahead = third
    return reduced(ahead) == one


def is_claim_of_taking(form, prime):
    return is_form(form) and is_prime_beside(prime, discriminant_of(form), 10000)


def is_taken_there(form, prime, paper):
    if not is_claim_of_taking(form, prime) or not are_whole(paper, 2):
        return False
    x, y = paper
    return value_at(form, x, y) == prime


def is_not_taken(form, prime, paper):
    if not is_claim_of_taking(form, prime):
        return False
    discriminant = discriminant_of(form)
    if symbol_at_prime(discriminant, prime) == -1:
        return has_parts(paper, 0)
    if not has_parts(paper, 3) or not is_form_of(paper[0], discriminant) or not are_whole(paper[1:], 2):
        return False
    other, x, y = paper
    # The classes that take the prime are those of one form and its opposite alone.
    return reduced(other) not in (reduced(form), reduced(opposite(form))) and value_at(other, x, y) == prime


def do_residues(discriminant, paper):
    if not is_discriminant(discriminant):
        return False
    forms = classes(discriminant)
    return has_parts(paper, len(forms)) and all([
        is_change(change) and led_by(form, change) == opposite(form) for form, change in zip(forms, paper)])


def do_no_residues(discriminant, paper):
    if not is_discriminant(discriminant) or not has_parts(paper, 1) or not is_form_of(paper[0], discriminant):
        return False
    return reduced(paper[0]) != reduced(opposite(paper[0]))


def are_twins(discriminant, number, one, other, paper):
    if not is_discriminant(discriminant) or not is_whole_between(number, 1, 1000):
        return False
    if not all([is_prime_beside(prime, discriminant, 10 ** 6) for prime in (one, other)]):
        return False
    if (one - other) % number != 0 or not has_parts(paper, 7):
        return False
    x, y, form, z, w, u, v = paper
    if not are_whole((x, y, z, w, u, v), 6) or not is_form_of(form, discriminant):
        return False
    first = first_form(discriminant)
    if reduced(form) == first or value_at(first, x, y) != one or value_at(form, z, w) != other:
        return False
    return (value_at(first, u, v) - other) % discriminant == 0


def is_polynomial_of(discriminant, coefficients, paper):
    if not is_discriminant(discriminant) or not are_all_whole(coefficients) or not has_parts(paper, 0):
        return False
    return coefficients == class_polynomial(discriminant)


def is_factor_told(value, prime):
    """Whether the value, whatever it is, is the tuple of coefficients from 0 to prime - 1 of a polynomial with 1 ahead.

    Its degree is at least 1.
    """
    if not are_all_whole(value) or len(value) < 2 or value[-1] != 1:
        return False
    return all([0 <= number < prime for number in value])


def product_of(polynomials, prime):
    product = (1,)
    for polynomial in polynomials:
        product = times(product, polynomial, prime)
    return product


def is_order_at(discriminant, prime, count, paper):
    if not is_claim_modulo(discriminant, prime) or not is_whole(count) or symbol_at_prime(discriminant, prime) != 1:
        return False
    if not isinstance(paper, tuple) or not all([is_factor_told(factor, prime) for factor in paper]):
        return False
    polynomial = residues(class_polynomial(discriminant), prime)
    if len(paper) * count != len(polynomial) - 1 or not all([len(factor) - 1 == count for factor in paper]):
        return False
    if not is_ascending(paper) or product_of(paper, prime) != polynomial:
        return False
    return all([is_irreducible(factor, prime) for factor in paper])


def falls_wholly(discriminant, prime, paper):
    if not is_claim_modulo(discriminant, prime) or not are_all_whole(paper) or not is_ascending(paper):
        return False
    polynomial = residues(class_polynomial(discriminant), prime)
    if len(paper) != len(polynomial) - 1 or not all([0 <= root < prime for root in paper]):
        return False
    return product_of([residues((-root, 1), prime) for root in paper], prime) == polynomial


def falls_not_wholly(discriminant, prime, paper):
    if not is_claim_modulo(discriminant, prime) or not has_parts(paper, 1) or not is_factor_told(paper[0], prime):
        return False
    factor = paper[0]
    # One of degree 1 has to stand there twice.
    part = factor if len(factor) > 2 else times(factor, factor, prime)
    polynomial = residues(class_polynomial(discriminant), prime)
    return len(rest_by(polynomial, part, prime)) == 0 and is_irreducible(factor, prime)


def are_rings(discriminant, prime, step, told, paper):
    if not is_claim_modulo(discriminant, prime) or not is_whole_between(step, 2, 3) or not has_parts(paper, 0):
        return False
    if not isinstance(told, tuple) or not all([are_all_whole(ring) for ring in told]):
        return False
    try:
        return told == rings(discriminant, prime, step)
    except (NotFirst, NoSquare):
        return False


CHECKS = {
    "alike": is_alike, "unlike": is_unlike, "composed": is_composed, "has order": has_order, "taken": is_taken_there,
    "not taken": is_not_taken, "residues tell": do_residues, "residues do not tell": do_no_residues,
    "twins": are_twins, "class polynomial": is_polynomial_of, "order": is_order_at, "falls wholly": falls_wholly,
    "does not fall wholly": falls_not_wholly, "rings": are_rings}
# How many elements a claim has behind its word.
PARTS = {
    "alike": 2, "unlike": 2, "composed": 3, "has order": 2, "taken": 2, "not taken": 2, "residues tell": 1,
    "residues do not tell": 1, "twins": 4, "class polynomial": 2, "order": 3, "falls wholly": 2,
    "does not fall wholly": 2, "rings": 4}


def accepts(claim, paper):
    """Whether the paper is one for the claim, whatever both are."""
    if not isinstance(claim, tuple) or len(claim) == 0 or not isinstance(claim[0], str):
        return False
    word, *parts = claim
    if word not in CHECKS or len(parts) != PARTS[word]:
        return False
    check = CHECKS[word]
    return check(*parts, paper)
