"""Reckoning with numbers of the plane that are known up to a bound.

A disk (x, y, r) of whole numbers is all that is up to r units away from x + i y; there are 2 ^ bits units in 1.
What a function tells surely contains the result for all numbers of the disks that it is passed.
"""

from math import isqrt


def disk_of(number, bits):
    """The disk of a whole number alone."""
    return (number << bits, 0, 0)


def widened(disk, units):
    x, y, r = disk
    return (x, y, r + units)


def mirrored(disk):
    """The disk of the complex conjugates."""
    x, y, r = disk
    return (x, -y, r)


def plus(disk, other):
    x, y, r = disk
    u, v, s = other
    return (x + u, y + v, r + s)


def multiple(disk, number):
    """The disk times a whole number."""
    x, y, r = disk
    return (number * x, number * y, abs(number) * r)


def divided(disk, number):
    """The disk over a whole number above 0."""
    x, y, r = disk
    # Cutting off changes x, y and r by less than 1, so the middle moves by less than 2.
    return (x // number, y // number, r // number + 3)


def times(disk, other, bits):
    x, y, r = disk
    u, v, s = other
    spread = (abs(x) + abs(y)) * s + (abs(u) + abs(v)) * r + r * s
    return ((x * u - y * v) >> bits, (x * v + y * u) >> bits, (spread >> bits) + 3)


def cube(disk, bits):
    return times(disk, times(disk, disk, bits), bits)


def reciprocal(disk, bits):
    """1 over the numbers of a disk that does not reach 0."""
    x, y, r = disk
    square = x * x + y * y
    # The middle is at least so far away from 0, the other numbers up to r less far.
    distance = isqrt(square)
    spread = (r << (2 * bits)) // (distance * (distance - r))
    return ((x << (2 * bits)) // square, (-y << (2 * bits)) // square, spread + 3)


def is_small(disk):
    """Whether x and y are up to 1 in size; cut off downwards, what falls towards 0 may stay at - 1."""
    x, y, _ = disk
    return abs(x) <= 1 and abs(y) <= 1


def farthest(disk):
    """How many units away from 0 the numbers of a small disk are at most."""
    return disk[2] + 2


def square_root(number, bits):
    """The root, not below 0, of a whole number from 0 on."""
    return (isqrt(number << (2 * bits)), 0, 1)


def pi(bits):
    """Machin: pi is 16 times the angle of the tangent 1 / 5, less 4 times that of 1 / 239."""
    return plus(multiple(angle(5, bits), 16), multiple(angle(239, bits), -4))


def angle(number, bits):
    """The angle whose tangent is 1 over the number n: 1 / n - 1 / (3 n ^ 3) + 1 / (5 n ^ 5) - .."""
    odd_power = divided(disk_of(1, bits), number)
    total = odd_power
    divisor = 1
    sign = 1
    while not is_small(odd_power):
        odd_power = divided(odd_power, number * number)
        divisor += 2
        sign = -sign
        total = plus(total, multiple(divided(odd_power, divisor), sign))
    # Parts of changing signs that fall: those left out are together below the last one.
    return widened(total, farthest(odd_power))


def exponential(disk, bits):
    """e to the numbers of a disk, which are below 128 in size."""
    # A number below 1 / 512 wants few terms; squaring 16 times then doubles the exponent as often.
    part = divided(disk, 1 << 16)
    total = term = disk_of(1, bits)
    count = 0
    while not is_small(term):
        count += 1
        term = divided(times(term, part, bits), count)
        total = plus(total, term)
    # Each term is below half of the one ahead: those left out are together below the last one.
    total = widened(total, farthest(term))
    for _ in range(16):
        total = times(total, total, bits)
    return total
