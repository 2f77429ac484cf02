"""Hurwitz numbers: sums over all reduced triples of one size."""

from classprimes.arithmetic import fraction, is_whole_between
from classprimes.errors import InvalidNumber
from classprimes.forms import reduced_triples


def hurwitz(number):
    """The Hurwitz number of a whole number from 0 to 10000, a fraction."""
    if not is_whole_between(number, 0, 10000):
        raise InvalidNumber(number)
    if number == 0:
        return (-1, 12)
    return fraction(sum([sixths_of(triple) for triple in reduced_triples(number)]), 6)


def sixths_of(triple):
    """As how many sixths the triple counts."""
    a, b, c = triple
    if a == b == c:
        return 2
    return 3 if a == c and b == 0 else 6
