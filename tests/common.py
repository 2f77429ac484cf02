"""What several tests need: valid and wrong values, and reckoning of their own."""

import math
from decimal import Decimal
from fractions import Fraction

DISCRIMINANTS = [number for number in range(-400, -2) if number % 4 in (0, 1)]


def nested(kind, depth):
    value = kind()
    for _ in range(depth - 1):
        value = kind([value])
    return value


GREAT = 10 ** 99

NO_NUMBERS = [
    None, True, False, "", "5", "-23", "1" * 1000, b"", b"5", (), (5,), (-23,), [], [5], [-23], {}, {5: 5}, {5}, 5j,
    Fraction(5), Fraction(-23), Decimal(5), Decimal(-23), range(5), len, int, object(), ...,
    nested(list, 30), nested(tuple, 30),
]
NO_DISCRIMINANTS = NO_NUMBERS + [0, 1, -1, -2, -5, -6, -22, -398, -401, -402, -403, -404, -408, 3, 4, 23, GREAT, -GREAT]
NO_NUMBERS_FROM_1 = NO_NUMBERS + [0, -1, -23, 10001, 10002, GREAT, -GREAT]
NO_NUMBERS_FROM_0 = NO_NUMBERS + [-1, -23, 10001, 10002, GREAT, -GREAT]
NO_PRIMES = NO_NUMBERS + [
    0, 1, -1, -2, -3, -7, 4, 6, 9, 15, 25, 49, 91, 561, 1001, 9409, 9797, 9999, 10000, 10001, 10007, 10009, 104729,
    GREAT, -GREAT]
NO_FORMS = NO_NUMBERS + [
    0, 1, -23, GREAT,
    [1, 1, 6], {1: 1, 2: 1, 3: 6}, "116", range(1, 4), (1, 1), (1, 1, 6, 0), (1, 1, 6, 1, 1), ((1, 1, 6),),
    ([1, 1, 6],), ((1,), (1,), (6,)), ([1], [1], [6]), (True, 1, 6), (1, True, 6), (1, 1, True), (1, False, 5),
    (2, False, 3), ("1", 1, 6), (1, "1", 6), (1, 1, "6"), (1, None, 6), (None, None, None), (Fraction(1), 1, 6),
    (1, 1, Decimal(6)), (1, object(), 6), (2, 2, 2), (3, 3, 3), (2, 0, 2), (2, 2, 4), (5, 5, 5), (-2, 2, -2),
    (-1, 1, -6), (-2, 1, -3), (0, 1, 6), (0, 0, 0), (0, 0, 1), (-1, 0, -1), (-1, -1, -1), (1, 5, 6), (1, 2, 1),
    (1, 0, 0), (1, 1, 0), (1, 0, -1), (1, 0, 101), (1, 1, 101), (1, 0, 102), (2, 1, 51), (1, GREAT, 1),
    (GREAT, 1, 1), (1, 1, -GREAT), (nested(list, 29), 1, 6),
]
NO_CHANGES = NO_NUMBERS + [
    0, 1, GREAT,
    [1, 0, 0, 1], "1001", range(4), (1, 0, 0), (1, 0, 0, 1, 0), (1, 0, 0, 1, 1), ((1, 0), (0, 1)), ((1, 0, 0, 1),),
    ([1, 0, 0, 1],), (True, 0, 0, 1), (1, False, 0, 1), (1, 0, False, 1), (1, 0, 0, True), ("1", 0, 0, 1),
    (1, None, 0, 1), (Fraction(1), 0, 0, 1), (1, 0, 0, Decimal(1)), (object(), 0, 0, 1), (1, 0, 0, -1), (-1, 0, 0, 1),
    (0, 1, 1, 0), (1, 1, 1, 1), (0, 0, 0, 0), (2, 0, 0, 1), (1, 1, -1, 1), (2, 1, 1, 2), (GREAT, 1, 1, 1),
    (nested(list, 29), 0, 0, 1),
]


def multiplied(change, then):
    p, q, r, s = change
    t, u, v, w = then
    return (p * t + q * v, p * u + q * w, r * t + s * v, r * u + s * w)


def turned_back(change):
    p, q, r, s = change
    return (s, -q, -r, p)


def fibonacci_change(count):
    """A CHANGE with numbers of about COUNT / 2.4 figures."""
    change = (1, 0, 0, 1)
    for _ in range(count):
        change = multiplied(change, (2, 1, 1, 1))
    return change


def small_changes(size):
    """All CHANGEs with numbers from - size to size."""
    numbers = range(-size, size + 1)
    return [(p, q, r, s) for p in numbers for q in numbers for r in numbers for s in numbers if p * s - q * r == 1]


GREAT_CHANGES = [
    fibonacci_change(230),
    turned_back(fibonacci_change(230)),
    multiplied((1, -GREAT, 0, 1), (0, -1, 1, 0)),
    multiplied((0, -1, 1, 0), (1, 10 ** 98 + 7, 0, 1)),
    multiplied(fibonacci_change(90), (-1, 3, 0, -1)),
]
CHANGES = small_changes(2) + [(7, 3, 2, 1), (-5, 2, 2, -1), (1, 1000, 0, 1), (1, 0, -1000, 1)] + GREAT_CHANGES


def value_by_hand(form, x, y):
    a, b, c = form
    return a * x ** 2 + b * x * y + c * y ** 2


def changed_by_hand(form, change):
    """The numbers at x x, x y, y y, read off the values at (1, 0), (1, 1), (0, 1)."""
    p, q, r, s = change
    first = value_by_hand(form, p, r)
    last = value_by_hand(form, q, s)
    return (first, value_by_hand(form, p + q, r + s) - first - last, last)


def is_reduced_by_hand(form):
    a, b, c = form
    if b < -a or b > a or a > c:
        return False
    if b == a or b == -a or a == c:
        return b >= 0
    return True


def have_common_divisor(numbers):
    """Whether a number above 1 divides all."""
    highest = max(abs(number) for number in numbers)
    return any(all(number % d == 0 for number in numbers) for d in range(2, highest + 1))


def reduced_by_triples():
    """The reduced FORMs of every discriminant, ascending, by looking at all triples."""
    found = {discriminant: [] for discriminant in DISCRIMINANTS}
    # 4 a c - b b is from 3 a a on and from 3 a c on, so a is up to 11, c up to 133.
    for a in range(1, 13):
        for b in range(-13, 14):
            for c in range(1, 141):
                discriminant = b * b - 4 * a * c
                if discriminant in found and is_reduced_by_hand((a, b, c)) and not have_common_divisor((a, b, c)):
                    found[discriminant].append((a, b, c))
    return found


REDUCED = reduced_by_triples()


def is_prime(number):
    return number > 1 and all(number % d for d in range(2, int(number ** 0.5) + 1))


PRIMES = [number for number in range(2, 10001) if is_prime(number)]


def symbol_at_prime_by_hand(discriminant, prime):
    if discriminant % prime == 0:
        return 0
    if any((b * b - discriminant) % (4 * prime) == 0 for b in range(4 * prime)):
        return 1
    return -1


def symbol_by_hand(discriminant, number):
    result = 1
    for prime in PRIMES:
        while number % prime == 0:
            result *= symbol_at_prime_by_hand(discriminant, prime)
            number //= prime
        if number == 1:
            return result
    raise AssertionError(number)


def reduced_by_hand(form):
    a, b, c = form
    while not is_reduced_by_hand((a, b, c)):
        if -a < b <= a:
            a, b, c = c, -b, a
        step = (a - b) // (2 * a)
        a, b, c = a, b + 2 * a * step, a * step * step + b * step + c
    return (a, b, c)


def first_by_hand(discriminant):
    return (1, 0, -discriminant // 4) if discriminant % 4 == 0 else (1, 1, (1 - discriminant) // 4)


def values_by_hand(form, highest):
    """The values of a reduced FORM up to HIGHEST, as the keys of a dict."""
    a, b, c = form
    size = 4 * a * c - b * b
    # 4 c times the value is from size x x on, 4 a times it from size y y on; - x, - y have the value of x, y.
    width = math.isqrt(4 * c * highest // size) + 1
    height = math.isqrt(4 * a * highest // size) + 1
    found = {}
    for y in range(height + 1):
        for x in range(-width, width + 1):
            number = a * x * x + b * x * y + c * y * y
            if number <= highest:
                found[number] = True
    return found


ALL_REDUCED = [form for discriminant in DISCRIMINANTS for form in REDUCED[discriminant]]
