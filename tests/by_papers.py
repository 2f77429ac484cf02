"""Which papers are right, in other ways than the checker's: by values at places, by trying, by Berlekamp's matrix."""

import functools
import itertools

from classprimes.errors import ClassError
from classprimes.singular import class_polynomial
from classprimes.steps import rings
from tests.by_berlekamp import is_irreducible_by_hand, product_by_hand, rest_by_hand, roots_by_trying, value_by_horner
from tests.by_machine import is_form_by_hand
from tests.common import (
    PRIMES, REDUCED, changed_by_hand, first_by_hand, is_prime, reduced_by_hand, symbol_at_prime_by_hand, value_by_hand)

PRIMES_TO_10000 = set(PRIMES)
PLACES = ((1, 0), (0, 1), (1, 1), (1, -1), (2, 1), (-3, 2))

polynomial = functools.lru_cache(maxsize=None)(class_polynomial)
symbol = functools.lru_cache(maxsize=None)(symbol_at_prime_by_hand)
irreducible = functools.lru_cache(maxsize=None)(is_irreducible_by_hand)


def whole(value):
    return type(value) is int


def row(value, count=None):
    """Whether it is a tuple of whole numbers, of so many if a count is told."""
    return type(value) is tuple and all(map(whole, value)) and count in (None, len(value))


def form(value):
    return row(value, 3) and is_form_by_hand(value)


def size_of(triple):
    a, b, c = triple
    return b * b - 4 * a * c


def change(value):
    return row(value, 4) and value[0] * value[3] - value[1] * value[2] == 1


def turned(triple):
    return reduced_by_hand((triple[0], -triple[1], triple[2]))


def nothing(paper):
    return type(paper) is tuple and len(paper) == 0


def composes(one, two, three, numbers):
    if not row(numbers, 8) or not size_of(one) == size_of(two) == size_of(three):
        return False
    p, q = numbers[:4], numbers[4:]
    for (x, y), (z, w) in itertools.product(PLACES, repeat=2):
        products = (x * z, x * w, y * z, y * w)
        upper = sum(number * each for number, each in zip(p, products))
        lower = sum(number * each for number, each in zip(q, products))
        if value_by_hand(one, x, y) * value_by_hand(two, z, w) != value_by_hand(three, upper, lower):
            return False
    return p[0] * q[1] - p[1] * q[0] == one[0] and p[0] * q[2] - p[2] * q[0] == two[0]


def alike(one, two, paper):
    return form(one) and form(two) and change(paper) and changed_by_hand(one, paper) == two


def unlike(one, two, paper):
    return form(one) and form(two) and reduced_by_hand(one) != reduced_by_hand(two) and nothing(paper)


def composed(one, two, three, paper):
    return form(one) and form(two) and form(three) and composes(one, two, three, paper)


def has_order(one, count, paper):
    if not form(one) or not whole(count) or count < 1 or type(paper) is not tuple or len(paper) != count - 1:
        return False
    row_of_forms = [one]
    for pair in paper:
        if type(pair) is not tuple or len(pair) != 2 or not form(pair[0]):
            return False
        if not composes(row_of_forms[-1], one, *pair):
            return False
        row_of_forms.append(pair[0])
    first = [reduced_by_hand(each) == first_by_hand(size_of(one)) for each in row_of_forms]
    return first == [False] * (count - 1) + [True]


def prime_beside(discriminant, prime):
    return whole(prime) and prime in PRIMES_TO_10000 and discriminant % prime != 0


def taken(one, prime, paper):
    return form(one) and prime_beside(size_of(one), prime) and row(paper, 2) and value_by_hand(one, *paper) == prime


def not_taken(one, prime, paper):
    if not form(one) or not prime_beside(size_of(one), prime):
        return False
    if symbol(size_of(one), prime) == -1:
        return nothing(paper)
    if type(paper) is not tuple or len(paper) != 3 or not form(paper[0]) or not row(paper[1:], 2):
        return False
    if size_of(paper[0]) != size_of(one) or reduced_by_hand(paper[0]) in (reduced_by_hand(one), turned(one)):
        return False
    return value_by_hand(*paper) == prime


def size(value):
    return whole(value) and value in REDUCED


def residues_tell(discriminant, paper):
    return size(discriminant) and type(paper) is tuple and len(paper) == len(REDUCED[discriminant]) and all(
        change(each) and changed_by_hand(one, each) == (one[0], -one[1], one[2])
        for one, each in zip(REDUCED[discriminant], paper))


def residues_do_not_tell(discriminant, paper):
    return size(discriminant) and type(paper) is tuple and len(paper) == 1 and form(paper[0]) and (
        size_of(paper[0]) == discriminant and reduced_by_hand(paper[0]) != turned(paper[0]))


def twins(discriminant, number, one, two, paper):
    if not size(discriminant) or not whole(number) or not 1 <= number <= 1000:
        return False
    if not all(whole(prime) and prime <= 10 ** 6 and is_prime(prime) and discriminant % prime for prime in (one, two)):
        return False
    if one % number != two % number or type(paper) is not tuple or len(paper) != 7:
        return False
    if not row(paper[:2] + paper[3:], 6) or not form(paper[2]) or size_of(paper[2]) != discriminant:
        return False
    x, y, other, z, w, u, v = paper
    first = first_by_hand(discriminant)
    return value_by_hand(first, x, y) == one and reduced_by_hand(other) != first and value_by_hand(
        other, z, w) == two and value_by_hand(first, u, v) % -discriminant == two % -discriminant


def class_polynomial_told(discriminant, coefficients, paper):
    return size(discriminant) and row(coefficients) and coefficients == polynomial(discriminant) and nothing(paper)


def factor_told(value, prime):
    return row(value) and len(value) > 1 and value[-1] == 1 and all(0 <= number < prime for number in value)


def modulo(discriminant, prime):
    return tuple(number % prime for number in polynomial(discriminant))


def order(discriminant, prime, count, paper):
    if not size(discriminant) or not prime_beside(discriminant, prime) or symbol(discriminant, prime) != 1:
        return False
    if not whole(count) or type(paper) is not tuple or not all(factor_told(factor, prime) for factor in paper):
        return False
    if {len(factor) - 1 for factor in paper} != {count} or list(paper) != sorted(set(paper)):
        return False
    if product_by_hand(paper, prime) != modulo(discriminant, prime):
        return False
    return all(irreducible(factor, prime) for factor in paper)


def falls_wholly(discriminant, prime, paper):
    if not size(discriminant) or not prime_beside(discriminant, prime) or not row(paper):
        return False
    found = roots_by_trying(modulo(discriminant, prime), prime)
    return len(found) == len(REDUCED[discriminant]) and paper == found


def does_not_fall_wholly(discriminant, prime, paper):
    if not size(discriminant) or not prime_beside(discriminant, prime) or type(paper) is not tuple or len(paper) != 1:
        return False
    factor = paper[0]
    if not factor_told(factor, prime) or len(factor) > 1 + len(REDUCED[discriminant]):
        return False
    whole_one = modulo(discriminant, prime)
    if len(factor) == 2:
        # A root twice is a root of the derivative, too.
        derivative = [at * number for at, number in enumerate(whole_one)][1:]
        return all(value_by_horner(each, -factor[0], prime) == 0 for each in (whole_one, derivative))
    return irreducible(factor, prime) and rest_by_hand(whole_one, factor, prime) == []


def rings_told(discriminant, prime, step, told, paper):
    if not size(discriminant) or not prime_beside(discriminant, prime) or not whole(step) or step not in (2, 3):
        return False
    if type(told) is not tuple or not all(row(ring) for ring in told) or not nothing(paper):
        return False
    try:
        return told == rings(discriminant, prime, step)
    except ClassError:
        return False


RIGHT = {
    ("alike", 3): alike, ("unlike", 3): unlike, ("composed", 4): composed, ("has order", 3): has_order,
    ("taken", 3): taken, ("not taken", 3): not_taken, ("residues tell", 2): residues_tell,
    ("residues do not tell", 2): residues_do_not_tell, ("twins", 5): twins,
    ("class polynomial", 3): class_polynomial_told, ("order", 4): order, ("falls wholly", 3): falls_wholly,
    ("does not fall wholly", 3): does_not_fall_wholly, ("rings", 5): rings_told}


def accepted_by_hand(claim, paper):
    if type(claim) is not tuple or not claim or type(claim[0]) is not str or (claim[0], len(claim)) not in RIGHT:
        return False
    return RIGHT[claim[0], len(claim)](*claim[1:], paper)
