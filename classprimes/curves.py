"""Curves over a prime: their points, their invariants, how many there are, and their discriminants."""

from classprimes.arithmetic import are_whole, is_whole_between, power_modulo
from classprimes.counts import hurwitz
from classprimes.discriminants import is_square_part
from classprimes.errors import InvalidCurve, InvalidNumber
from classprimes.falling import roots
from classprimes.primes import check_prime_between


def is_curve(prime, curve):
    """Whether the second one, whatever it is, is a CURVE modulo the prime."""
    if not are_whole(curve, 2):
        return False
    a, b = curve
    return 0 <= a < prime and 0 <= b < prime and (4 * a ** 3 + 27 * b ** 2) % prime != 0


def check_curve(prime, curve):
    if not is_curve(prime, curve):
        raise InvalidCurve(curve)


def points_of(prime, curve):
    """How many points the curve has."""
    check_prime_between(prime, 5, 1000)
    check_curve(prime, curve)
    return count_points(curve, how_many_roots(prime))


def how_many_roots(prime):
    """How many residues have each residue as their square."""
    many = [0] * prime
    for y in range(prime):
        many[y * y % prime] += 1
    return many


def count_points(curve, many):
    a, b = curve
    prime = len(many)
    return 1 + sum([many[(x * x * x + a * x + b) % prime] for x in range(prime)])


def invariant_of(prime, curve):
    """The residue J with J (4 A ^ 3 + 27 B B) leaving what 1728 * 4 A ^ 3 leaves."""
    check_prime_between(prime, 5, 1000)
    check_curve(prime, curve)
    a, b = curve
    # What is no multiple of the prime has the power to prime - 2 as its reciprocal.
    return 1728 * 4 * a ** 3 * power_modulo(4 * a ** 3 + 27 * b ** 2, prime - 2, prime) % prime


def trace_of(prime, number):
    """The trace of curves with so many points; None if no curve can have it."""
    trace = prime + 1 - number
    return trace if trace * trace <= 4 * prime else None


def check_count(number):
    if not is_whole_between(number, 0, 2000):
        raise InvalidNumber(number)


def curve_with(prime, number):
    """A CURVE with so many points; None if there is none."""
    check_prime_between(prime, 5, 1000)
    check_count(number)
    if trace_of(prime, number) is None:
        return None
    many = how_many_roots(prime)
    # Each trace that is let has a curve.
    for curve in some_curves(prime):
        count = count_points(curve, many)
        if count == number:
            return curve
        if 2 * prime + 2 - count == number:
            return twisted(prime, curve, many.index(0))


def some_curves(prime):
    """CURVEs such that each number of points that CURVEs have is that of one of them, or of its twisted one."""
    # For u other than 0, (A u ^ 4, B u ^ 6) has as many points as (A, B): take (x u u, y u ^ 3) for (x, y).
    # If neither A nor B is 0, this makes B / A 1 where it is a square; where it is none, that of the twisted one is.
    units = range(1, prime)
    pairs = [(unit, unit) for unit in units] + [(unit, 0) for unit in units] + [(0, unit) for unit in units]
    return [pair for pair in pairs if is_curve(prime, pair)]


def twisted(prime, curve, no_square):
    """The CURVE that has two points at x n where this one has none at x, and the other way round; n is no square."""
    a, b = curve
    return (a * no_square ** 2 % prime, b * no_square ** 3 % prime)


def curves_with(prime, number):
    """How many CURVEs have so many points."""
    check_prime_between(prime, 5, 1000)
    check_count(number)
    trace = trace_of(prime, number)
    if trace is None:
        return 0
    count, divisor = hurwitz(4 * prime - trace * trace)
    return (prime - 1) * count // (2 * divisor)


def discriminant_of_curve(prime, curve):
    """The discriminant of the curve; None for the trace 0."""
    check_prime_between(prime, 5, 97)
    trace = trace_of(prime, points_of(prime, curve))
    if trace == 0:
        return None
    size = trace * trace - 4 * prime
    residue = invariant_of(prime, curve)
    fitting = [size // (n * n) for n in range(1, 12) if is_square_part(size, n)]
    # Just one of them has the invariant as a root.
    return [discriminant for discriminant in fitting if residue in roots(discriminant, prime)][0]
