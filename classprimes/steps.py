"""Steps from root to root of the class polynomial modulo a prime, and the rings that they make."""

from classprimes.arithmetic import is_whole, is_whole_between
from classprimes.discriminants import check_discriminant, symbol
from classprimes.errors import Divides, InvalidNumber, InvalidStep, NoSquare, NotFirst
from classprimes.falling import roots
from classprimes.forms import first_form
from classprimes.primes import check_prime, is_taken


def check_step(step):
    if not is_whole_between(step, 2, 3):
        raise InvalidStep(step)


def phi(step, x, y):
    """PHI of the step at x, y."""
    check_step(step)
    for number in (x, y):
        if not is_whole(number):
            raise InvalidNumber(number)
    return phi_by_2(x, y) if step == 2 else phi_by_3(x, y)


def phi_by_2(x, y):
    return (
        x ** 3 + y ** 3 - x ** 2 * y ** 2
        + 1488 * (x ** 2 * y + x * y ** 2)
        - 162000 * (x ** 2 + y ** 2)
        + 40773375 * x * y
        + 8748000000 * (x + y)
        - 157464000000000)


def phi_by_3(x, y):
    return (
        x ** 4 + y ** 4 - x ** 3 * y ** 3
        + 2232 * (x ** 3 * y ** 2 + x ** 2 * y ** 3)
        - 1069956 * (x ** 3 * y + x * y ** 3)
        + 36864000 * (x ** 3 + y ** 3)
        + 2587918086 * x ** 2 * y ** 2
        + 8900222976000 * (x ** 2 * y + x * y ** 2)
        + 452984832000000 * (x ** 2 + y ** 2)
        - 770845966336000000 * x * y
        + 1855425871872000000000 * (x + y))


def rings(discriminant, prime, step):
    """All rings by the step that the roots modulo the prime make, ascending."""
    check_discriminant(discriminant)
    check_prime(prime)
    check_step(step)
    if discriminant % prime == 0:
        raise Divides(prime)
    if prime == step or not is_taken(first_form(discriminant), prime):
        raise NotFirst(prime)
    if symbol(discriminant, step) != 1:
        raise NoSquare(step)
    neighbours = neighbours_of_all(roots(discriminant, prime), prime, step)
    found = []
    for root in neighbours:
        if not any([root in ring for ring in found]):
            found.append(ring_from(root, neighbours))
    return tuple(found)


def neighbours_of_all(residues, prime, step):
    """The neighbours of each of the residues, ascending as these are."""
    return {one: [other for other in residues if phi(step, one, other) % prime == 0] for one in residues}


def ring_from(root, neighbours):
    """The ring from its least root on, the lesser one of its neighbours next."""
    ring = [root]
    following = neighbours[root][0]
    while following != root:
        left = [other for other in neighbours[following] if other != ring[-1]]
        ring.append(following)
        # In a ring of two roots the one behind is the one ahead, too.
        following = left[0] if len(left) > 0 else root
    return tuple(ring)
