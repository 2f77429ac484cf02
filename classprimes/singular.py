"""The invariants of forms, and the class polynomial."""

from classprimes.arithmetic import fraction, is_whole_between
from classprimes.discriminants import check_discriminant
from classprimes.disks import (
    cube, disk_of, divided, exponential, farthest, is_small, mirrored, multiple, pi, plus, reciprocal, square_root,
    times, widened)
from classprimes.errors import InvalidNumber
from classprimes.forms import check_form, classes, discriminant_of, opposite, reduced


def invariant(form, count):
    """Enclosures by COUNT digits of the real part and of the imaginary part of the form's invariant."""
    check_form(form)
    if not is_whole_between(count, 0, 30):
        raise InvalidNumber(count)
    # 1 / F and j are below 2 ^ 92 in size, so of 512 bits far more than 100 (30 digits) are right.
    bits = 512
    x, y, r = invariant_disk(reduced(form), pi(bits), bits)
    return (enclosure(x, r, bits, count), enclosure(y, r, bits, count))


def enclosure(middle, spread, bits, count):
    """The enclosure by COUNT digits of a real number that is at most SPREAD units from the middle."""
    # One digit more than asked for leaves room to round both ends outwards.
    parts = 10
    for _ in range(count):
        parts = parts * 10
    low = ((middle - spread) * parts) >> bits
    high = -((-(middle + spread) * parts) >> bits)
    return (fraction(low, parts), fraction(high, parts))


def invariant_disk(form, half_turn, bits):
    """The disk of the invariant of a reduced form; half_turn is that of pi."""
    a, b, _ = form
    # 2 pi i z is - pi (R + i b) / a.
    point = plus(square_root(-discriminant_of(form), bits), (0, b << bits, 0))
    q = exponential(divided(multiple(times(half_turn, point, bits), -1), a), bits)
    product = product_of_powers(q, bits)
    for _ in range(3):
        product = times(product, product, bits)
    f = times(q, cube(product, bits), bits)
    top = cube(plus(disk_of(1, bits), multiple(f, 256)), bits)
    return times(top, reciprocal(f, bits), bits)


def product_of_powers(q, bits):
    """The product of 1 + q ^ n for all n from 1 on; q, of a reduced form, is below 1 / 200 in size."""
    one = disk_of(1, bits)
    product = one
    part = q
    while not is_small(part):
        product = times(product, plus(one, part), bits)
        part = times(part, q, bits)
    # The factors left out make one that is little farther from 1 than this power is from 0.
    return times(product, widened(one, 2 * farthest(part)), bits)


def class_polynomial(discriminant):
    """The coefficients of the class polynomial, that of the power 0 first."""
    check_discriminant(discriminant)
    # With 256 bits, where this begins, each F (above 2 ^ - 92 in size) is told apart from 0.
    bits = 128
    coefficients = None
    while coefficients is None:
        bits = 2 * bits
        coefficients = whole_coefficients(disk_polynomial(discriminant, bits), bits)
    return coefficients


def disk_polynomial(discriminant, bits):
    """The disks of the coefficients of the class polynomial, that of the power 0 first."""
    half_turn = pi(bits)
    polynomial = [disk_of(1, bits)]
    for form in classes(discriminant):
        # The invariants of opposites are conjugates, so those with b below 0 need no reckoning.
        if form[1] >= 0:
            root = invariant_disk(form, half_turn, bits)
            polynomial = with_root(polynomial, root, bits)
            if reduced(opposite(form)) != form:
                polynomial = with_root(polynomial, mirrored(root), bits)
    return polynomial


def with_root(polynomial, root, bits):
    """The polynomial times x less the root."""
    nought = disk_of(0, bits)
    less = [multiple(times(disk, root, bits), -1) for disk in polynomial]
    return [plus(disk, other) for disk, other in zip([nought] + polynomial, less + [nought])]


def whole_coefficients(polynomial, bits):
    """The whole numbers in the disks; None if one is so wide that it may contain several."""
    lows = [-((r - x) >> bits) for x, _, r in polynomial]
    highs = [(x + r) >> bits for x, _, r in polynomial]
    return tuple(lows) if lows == highs else None
