"""Composing FORMs: the group that the classes of a discriminant make."""

from math import gcd

from classprimes.arithmetic import bezout, is_whole_between
from classprimes.discriminants import check_discriminant
from classprimes.errors import InvalidNumber, OtherDiscriminant
from classprimes.forms import (
    check_form, classes, discriminant_of, first_form, inverse, joined, led_by, opposite, reduced, reduction, value_at)


def composed(form, other):
    """The reduced form of the product of both classes."""
    third, _ = composing_numbers(form, other)
    return reduced(third)


def composing_numbers(form, other):
    """A pair of a FORM and the tuple (P_0, .., P_3, Q_0, .., Q_3) that composes it of the two."""
    check_form(form)
    check_form(other)
    if discriminant_of(form) != discriminant_of(other):
        raise OtherDiscriminant(other)
    change, then = uniting(form, other)
    a, b, last = led_by(form, change)
    lead = led_by(other, then)[0]
    c = last // lead
    # x z - c y w and a x w + lead y z + b y w compose (a lead, b, c) of (a, b, lead c) and (lead, b, a c);
    # P and Q are what they are where the FORMs that were passed have (1, 0) or (0, 1) as x, y and as z, w.
    upper = []
    lower = []
    for x, y in columns(inverse(change)):
        for z, w in columns(inverse(then)):
            upper.append(x * z - c * y * w)
            lower.append(a * x * w + lead * y * z + b * y * w)
    return ((a * lead, b, c), tuple(upper + lower))


def columns(change):
    p, q, r, s = change
    return ((p, r), (q, s))


def uniting(form, other):
    """CHANGEs that lead both to FORMs with one b whose a have no common divisor above 1."""
    small, change = reduction(form)
    a, b, _ = small
    then = change_to_lead_without(other, a)
    lead, middle, _ = led_by(other, then)
    # b + 2 a t = middle + 2 lead u is to hold; both b are even or both odd, as D is.
    s, _ = bezout(a, lead)
    t = (middle - b) // 2 * s % lead
    u = (b + 2 * a * t - middle) // (2 * lead)
    return joined(change, (1, t, 0, 1)), joined(then, (1, u, 0, 1))


def change_to_lead_without(form, number):
    """A CHANGE to a FORM whose a has no common divisor above 1 with the number from 1 on."""
    small, change = reduction(form)
    x, y = place_without(small, number)
    s, t = bezout(x, y)
    return joined(change, (x, -t, y, s))


def place_without(form, number):
    """Numbers x, y without a common divisor above 1 at which the value has none with the number."""
    # There is such a place: for each prime of the number the value at (1, 0), (0, 1) or (1, 1) will do,
    # some x, y up to the number leave the same as these, and what x and y share may be divided out.
    for x in range(number + 1):
        for y in range(number + 1):
            if gcd(x, y) == 1 and gcd(value_at(form, x, y), number) == 1:
                return x, y


def power(form, count):
    """The reduced form of the class COUNT times as a factor, below 0 of its inverse."""
    check_form(form)
    if not is_whole_between(count, -1000, 1000):
        raise InvalidNumber(count)
    result = first_form(discriminant_of(form))
    square = form if count > 0 else opposite(form)
    exponent = abs(count)
    while exponent > 0:
        if exponent % 2 == 1:
            result = composed(result, square)
        square = composed(square, square)
        exponent = exponent // 2
    return result


def order_of(form):
    """The least number from 1 on of factors, each the form's class, that make the one."""
    check_form(form)
    one = first_form(discriminant_of(form))
    small = reduced(form)
    result = small
    count = 1
    while result != one:
        result = composed(result, small)
        count += 1
    return count


def kind_of(discriminant):
    """The sizes of the cyclic groups whose product the group of the classes is, each dividing the next one."""
    check_discriminant(discriminant)
    orders = [order_of(form) for form in classes(discriminant)]
    size = len(orders)
    counts = [len([order for order in orders if number % order == 0]) for number in range(1, size + 1)]
    # No two kinds agree in how many elements have an order that divides n, for all n.
    kinds = [kind for kind in kinds_of_size(size, 1) if counts_of_kind(kind, size) == counts]
    return kinds[0]


def kinds_of_size(size, divisor):
    """All kinds of so many elements whose first number is a multiple of the divisor."""
    if size == 1:
        return [()]
    firsts = [first for first in range(2, size + 1) if size % first == 0 and first % divisor == 0]
    return [(first, *kind) for first in firsts for kind in kinds_of_size(size // first, first)]


def counts_of_kind(kind, size):
    """How many elements of such a group have an order that divides n, for each n from 1 up to the size."""
    counts = []
    for number in range(1, size + 1):
        count = 1
        for part in kind:
            count = count * gcd(part, number)
        counts.append(count)
    return counts


def own_opposites(discriminant):
    """The reduced forms of the classes that are their own opposites, ascending."""
    return tuple([form for form in classes(discriminant) if reduced(opposite(form)) == form])


def squares(discriminant):
    """The reduced forms of the classes that are squares of classes, ascending."""
    return tuple(sorted({composed(form, form) for form in classes(discriminant)}))
