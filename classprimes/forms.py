"""FORMs and CHANGEs: values, reducing, alike forms and the classes of a discriminant."""

from math import gcd, isqrt

from classprimes.arithmetic import are_whole, is_whole
from classprimes.discriminants import check_discriminant, is_discriminant
from classprimes.errors import InvalidChange, InvalidForm, InvalidNumber


def is_form(value):
    """Whether the value, whatever it is, is a FORM."""
    if not are_whole(value, 3):
        return False
    a, b, c = value
    return a > 0 and gcd(a, b, c) == 1 and is_discriminant(b * b - 4 * a * c)


def check_form(form):
    if not is_form(form):
        raise InvalidForm(form)


def is_change(value):
    """Whether the value, whatever it is, is a CHANGE."""
    if not are_whole(value, 4):
        return False
    p, q, r, s = value
    return p * s - q * r == 1


def check_change(change):
    if not is_change(change):
        raise InvalidChange(change)


def discriminant_of(form):
    check_form(form)
    a, b, c = form
    return b * b - 4 * a * c


def value_of(form, x, y):
    """The value of the form at x, y."""
    check_form(form)
    for number in (x, y):
        if not is_whole(number):
            raise InvalidNumber(number)
    return value_at(form, x, y)


def value_at(form, x, y):
    a, b, c = form
    return a * x * x + b * x * y + c * y * y


def changed(form, change):
    """The FORM to which the CHANGE leads the form."""
    check_form(form)
    check_change(change)
    return led_by(form, change)


def led_by(form, change):
    a, b, c = form
    p, q, r, s = change
    middle = 2 * a * p * q + b * (p * s + q * r) + 2 * c * r * s
    return (value_at(form, p, r), middle, value_at(form, q, s))


def joined(change, then):
    """The CHANGE that leads where the first one and, from there, the other one lead."""
    p, q, r, s = change
    t, u, v, w = then
    return (p * t + q * v, p * u + q * w, r * t + s * v, r * u + s * w)


def inverse(change):
    """The CHANGE that leads back."""
    p, q, r, s = change
    return (s, -q, -r, p)


def reduced(form):
    """The reduced FORM of the form's class."""
    check_form(form)
    small, _ = reduction(form)
    return small


def is_reduced(form):
    a, b, c = form
    return -a <= b <= a <= c and (b >= 0 or (-b != a and a != c))


def reduction(form):
    """The pair of the reduced FORM and a CHANGE that leads the form to it."""
    change = centring(form)
    small = led_by(form, change)
    # Each turn puts the lesser c ahead, so there is an end; if c is a, one turn makes b right.
    turn = (0, -1, 1, 0)
    while not is_reduced(small):
        step = joined(turn, centring(led_by(small, turn)))
        small = led_by(small, step)
        change = joined(change, step)
    return small, change


def centring(form):
    """The CHANGE that keeps a and leads to a b above - a and up to a."""
    a, b, _ = form
    return (1, (a - b) // (2 * a), 0, 1)


def change_between(form, other):
    """A CHANGE that leads the form to the other one; None if they are not alike."""
    check_form(form)
    check_form(other)
    small, there = reduction(form)
    goal, back = reduction(other)
    if small != goal:
        return None
    return joined(there, inverse(back))


def are_alike(form, other):
    """Whether some CHANGE leads the form to the other one."""
    return change_between(form, other) is not None


def opposite(form):
    check_form(form)
    a, b, c = form
    return (a, -b, c)


def automorphs(form):
    """All CHANGEs that lead the form to itself, ascending."""
    check_form(form)
    a, b, c = form
    size = 4 * a * c - b * b
    # They belong one by one to the pairs t, u with t t + size u u = 4 (Gauss); size is at least 3.
    pairs = [(t, u) for t in range(-2, 3) for u in range(-1, 2) if t * t + size * u * u == 4]
    return tuple(sorted([((t - b * u) // 2, -c * u, a * u, (t + b * u) // 2) for t, u in pairs]))


def classes(discriminant):
    """The reduced FORMs of the discriminant, ascending."""
    check_discriminant(discriminant)
    return tuple([triple for triple in reduced_triples(-discriminant) if is_form(triple)])


def reduced_triples(size):
    """The triples with 4 a c - b b of this size, perhaps with a common divisor, reduced as FORMs are; ascending."""
    # In a reduced one 4 a c - b b is at least 3 a a.
    greatest = isqrt(size // 3)
    found = []
    for a in range(1, greatest + 1):
        for b in range(-a, a + 1):
            c, rest = divmod(b * b + size, 4 * a)
            if rest == 0 and is_reduced((a, b, c)):
                found.append((a, b, c))
    return found


def first_form(discriminant):
    """The first form of the discriminant: the reduced one that takes 1."""
    check_discriminant(discriminant)
    b = discriminant % 2
    return (1, b, (b - discriminant) // 4)
