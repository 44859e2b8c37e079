"""Rings of tetrahedra around an axis, and the tetrahedra around any edge."""

from math import gcd

from wedgespace.errors import BadNumber
from wedgespace.forms import check_size, some_renaming
from wedgespace.gluings import check_gluing
from wedgespace.paths import circle, places_of_path
from wedgespace.perms import exchanging

GREATEST_RING = 12


def ring(p, q):
    """Return the ring of two integers."""
    check_ring(p, q)
    return ring_of(p, q)


def ring_order(p, q):
    """Return the order of the homology of dimension 1 of a ring."""
    check_ring(p, q)
    return p // gcd(p, q)


def ring_numbers(gluing):
    """Return the ascending list of the pairs (p, q) whose rings have the standard form of a gluing."""
    check_gluing(gluing)
    check_size(gluing)
    p = len(gluing)
    # Gluings in one piece have the same standard form exactly if a renaming joins them.
    return [(p, q) for q in range(p) if some_renaming(gluing, ring_of(p, q)) is not None]


def axis_of(gluing, t, e):
    """Return the list of the tetrahedra around an edge of a closed gluing."""
    path = circle(gluing, t, e)
    return [u for u, _ in places_of_path(gluing, path)]


def check_ring(p, q):
    """Raise BadNumber if there is no ring of two integers."""
    if not 1 <= p <= GREATEST_RING or not 0 <= q < p:
        raise BadNumber("a ring has p from 1 to 12, and q from 0 to p - 1")


def ring_of(p, q):
    """Return the ring of two integers that were checked."""
    upside = exchanging(0, 1)
    beside = exchanging(2, 3)
    steps = ((-q, upside), (q, upside), (1, beside), (-1, beside))
    return tuple([tuple([((i + step) % p, s) for step, s in steps]) for i in range(p)])
