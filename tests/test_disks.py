"""Disks: what they tell contains the result for all numbers of the disks that are passed."""

import itertools
import unittest
from decimal import Decimal, localcontext
from fractions import Fraction

from classprimes import disks
from tests.by_decimal import cosine_and_sine, pi_by_decimal

BITS = 20
UNIT = Fraction(1, 1 << BITS)
MIDDLES = (0, 1, -1, 3, -700, 12345, -54321, 1 << 20, -(1 << 21) + 5)
DISKS = [(x, y, r) for x in MIDDLES for y in MIDDLES[::2] for r in (0, 1, 900, 1 << 21)]
SOME = DISKS[::5]


def points(disk):
    """The middle of a disk and some numbers of its edge."""
    x, y, r = disk
    turns = ((0, 0), (1, 0), (-1, 0), (0, 1), (0, -1), (Fraction(3, 5), Fraction(-4, 5)))
    return [((x + r * u) * UNIT, (y + r * v) * UNIT) for u, v in turns]


def product(one, other):
    return (one[0] * other[0] - one[1] * other[1], one[0] * other[1] + one[1] * other[0])


class DisksTest(unittest.TestCase):
    def check_inside(self, disk, point, bits=BITS):
        self.assertEqual([type(number) for number in disk], [int] * 3)
        x, y, r = disk
        unit = Fraction(1, 1 << bits)
        self.assertLessEqual((x * unit - point[0]) ** 2 + (y * unit - point[1]) ** 2, (r * unit) ** 2)

    def test_whole_numbers(self):
        for number in (0, 1, -1, 77, -10 ** 30):
            self.assertEqual(disks.disk_of(number, BITS), (number * 2 ** BITS, 0, 0))

    def test_of_one_disk(self):
        for disk in DISKS:
            for x, y in points(disk):
                self.check_inside(disks.mirrored(disk), (x, -y))
                self.check_inside(disks.widened(disk, 4), (x + 2 * UNIT, y - 3 * UNIT))
                for number in (1, -1, 0, 24, -256):
                    self.check_inside(disks.multiple(disk, number), (number * x, number * y))
                for number in (1, 2, 3, 25, 1 << 16):
                    self.check_inside(disks.divided(disk, number), (x / number, y / number))
                self.check_inside(disks.cube(disk, BITS), product((x, y), product((x, y), (x, y))))

    def test_of_two_disks(self):
        for disk, other in itertools.product(SOME, SOME[::4]):
            for one, two in itertools.product(points(disk), points(other)):
                self.check_inside(disks.plus(disk, other), (one[0] + two[0], one[1] + two[1]))
                self.check_inside(disks.times(disk, other, BITS), product(one, two))

    def test_reciprocal(self):
        for disk in DISKS:
            if max(abs(disk[0]), abs(disk[1])) > disk[2] + 1:
                for x, y in points(disk):
                    size = x * x + y * y
                    self.check_inside(disks.reciprocal(disk, BITS), (x / size, -y / size))

    def test_small_ones(self):
        for x, y, r in itertools.product(range(-3, 4), range(-3, 4), (0, 1, 9)):
            self.assertIs(disks.is_small((x, y, r)), abs(x) <= 1 and abs(y) <= 1)
            if disks.is_small((x, y, r)):
                self.assertGreaterEqual((disks.farthest((x, y, r)) - r) ** 2, x * x + y * y)

    def test_square_root(self):
        for number in (0, 1, 2, 3, 4, 23, 163, 399, 400):
            x, y, r = disks.square_root(number, 100)
            self.assertEqual((y, r), (0, 1))
            self.assertTrue((x - 1) ** 2 < number << 200 < (x + 1) ** 2 or number == x == 0)

    def test_angle(self):
        # The sum, with more parts than matter.
        for number in (2, 5, 239):
            exact = sum(Fraction((-1) ** k, (2 * k + 1) * number ** (2 * k + 1)) for k in range(120))
            for bits in (10, 40, 100):
                self.check_inside(disks.angle(number, bits), (exact, 0), bits)

    def test_pi(self):
        with localcontext() as context:
            context.prec = 280
            exact = Fraction(pi_by_decimal())
        for bits in (64, 128, 256, 512):
            self.check_inside(disks.pi(bits), (exact, 0), bits)
            self.assertLess(disks.pi(bits)[2], 1 << 14)

    def test_exponential(self):
        with localcontext() as context:
            context.prec = 280
            for x, y in ((0, 0), (-1, 0), (0, 3), (-63, -3), (-6, 1), (-20, 2)):
                cosine, sine = cosine_and_sine(Decimal(y))
                size = Decimal(x).exp()
                exact = (Fraction(size * cosine), Fraction(size * sine))
                for bits in (128, 256, 512):
                    disk = disks.exponential((x << bits, y << bits, 0), bits)
                    self.check_inside(disk, exact, bits)
                    self.assertLess(disk[2], 1 << 28)

    def test_exponential_of_a_wide_disk(self):
        # - 6 + i is on the edge of this one.
        with localcontext() as context:
            context.prec = 100
            cosine, sine = cosine_and_sine(Decimal(1))
            size = Decimal(-6).exp()
            exact = (Fraction(size * cosine), Fraction(size * sine))
        for bits in (64, 128):
            off = 1 << 30
            self.check_inside(disks.exponential(((-6 << bits) + off, 1 << bits, off), bits), exact, bits)
