"""Invariants and class polynomials by decimals, in another way than the document tells: E4 ^ 3 over Delta."""

from decimal import Decimal, localcontext

from tests.common import REDUCED

FIGURES = 220


def pi_by_decimal():
    """Gauss and Legendre, by the arithmetic and geometric means."""
    a, b, t, p = Decimal(1), 1 / Decimal(2).sqrt(), Decimal(1) / 4, 1
    for _ in range(9):
        middle = (a + b) / 2
        a, b, t, p = middle, (a * b).sqrt(), t - p * (a - middle) ** 2, 2 * p
    return (a + b) ** 2 / (4 * t)


def cosine_and_sine(angle):
    """The sums of the odd and the even terms of e ^ (i angle)."""
    parts = [Decimal(0)] * 4
    term, count = Decimal(1), 0
    while abs(term) > Decimal(10) ** -(FIGURES + 20):
        parts[count % 4] += term
        count += 1
        term = term * angle / count
    return parts[0] - parts[2], parts[1] - parts[3]


def times(one, other):
    return (one[0] * other[0] - one[1] * other[1], one[0] * other[1] + one[1] * other[0])


def over(one, other):
    size = other[0] ** 2 + other[1] ** 2
    return times(one, (other[0] / size, -other[1] / size))


def invariant_by_decimal(form):
    """The invariant of a reduced FORM, right to far more than 60 figures behind the point."""
    a, b, c = form
    with localcontext() as context:
        context.prec = FIGURES + 60
        pi = pi_by_decimal()
        size = (-pi * Decimal(4 * a * c - b * b).sqrt() / a).exp()
        cosine, sine = cosine_and_sine(pi * b / a)
        q = (size * cosine, -size * sine)
        # E4 is 1 + 240 times the sum of n ^ 3 q ^ n / (1 - q ^ n); Delta is q times that of (1 - q ^ n) ^ 24.
        total, product, power, count = (Decimal(0), Decimal(0)), (Decimal(1), Decimal(0)), q, 1
        while max(abs(power[0]), abs(power[1])) > Decimal(10) ** -(FIGURES + 50):
            less = (1 - power[0], -power[1])
            part = over(power, less)
            total = (total[0] + count ** 3 * part[0], total[1] + count ** 3 * part[1])
            product = times(product, less)
            power, count = times(power, q), count + 1
        weight = (1 + 240 * total[0], 240 * total[1])
        for _ in range(3):
            product = times(product, product)
        delta = times(q, times(product, times(product, product)))
        return over(times(weight, times(weight, weight)), delta)


def polynomial_by_decimal(discriminant):
    """The coefficients of the class polynomial, that of the power 0 first, and how far from whole ones they are."""
    with localcontext() as context:
        context.prec = FIGURES + 60
        polynomial = [(Decimal(1), Decimal(0))]
        for form in REDUCED[discriminant]:
            root = invariant_by_decimal(form)
            nought = (Decimal(0), Decimal(0))
            lower = [nought] + polynomial
            upper = [times(part, root) for part in polynomial] + [nought]
            polynomial = [(one[0] - other[0], one[1] - other[1]) for one, other in zip(lower, upper)]
        rounded = [int(part[0].to_integral_value()) for part in polynomial]
        error = max(max(abs(part[0] - number), abs(part[1])) for part, number in zip(polynomial, rounded))
        return tuple(rounded), error
