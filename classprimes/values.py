"""Where forms have a value: the pairs x, y, and how many there are for all classes."""

from math import gcd, isqrt

from classprimes.arithmetic import is_whole_between
from classprimes.discriminants import check_discriminant
from classprimes.errors import InvalidNumber
from classprimes.forms import check_form, classes, reduction


def solutions(form, number):
    """All pairs x, y at which the form has the value, ascending."""
    check_form(form)
    if not is_whole_between(number, 0, 10000):
        raise InvalidNumber(number)
    # The numbers of the form may be great; those of the reduced one are not, so its pairs
    # are soon found, and the CHANGE leads them back.
    small, change = reduction(form)
    p, q, r, s = change
    pairs = [(p * x + q * y, r * x + s * y) for x, y in solutions_of_reduced(small, number)]
    return tuple(sorted(pairs))


def solutions_of_reduced(form, number):
    a, b, c = form
    size = 4 * a * c - b * b
    # 4 a times the value is (2 a x + b y) ^ 2 + size y y.
    highest = isqrt(4 * a * number // size)
    pairs = []
    for y in range(-highest, highest + 1):
        for root in roots_of(4 * a * number - size * y * y):
            x, rest = divmod(root - b * y, 2 * a)
            if rest == 0:
                pairs.append((x, y))
    return pairs


def roots_of(square):
    """The whole numbers with this square, which is not below 0."""
    root = isqrt(square)
    if root * root != square:
        return ()
    return (-root, root) if root > 0 else (0,)


def solutions_of_all(discriminant, number):
    """How many pairs there are at which the reduced forms have the value, all forms together."""
    check_discriminant(discriminant)
    if not is_whole_between(number, 1, 10000) or gcd(number, discriminant) > 1:
        raise InvalidNumber(number)
    return sum([len(solutions(form, number)) for form in classes(discriminant)])


def takes(form, number):
    """Whether the reduced form takes the number, which is not below 0."""
    return len(solutions_of_reduced(form, number)) > 0
