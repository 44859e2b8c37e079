"""The homology of a closed gluing, and whether cycles of dimension 1 are filled."""

from wedgespace.chains import (
    GREATEST_DIMENSION, border_of_chain, border_rows, check_dimension, counts_of_cells)
from wedgespace.diagonal import combination, diagonal_form, divisors, test_weights
from wedgespace.errors import BadNumber
from wedgespace.links import check_closed
from wedgespace.matrices import check_vector

PRIMES = (2, 3, 5, 7, 11, 13)


def homology(gluing, dimension):
    """Return the pair of the rank and the divisors of the homology of a dimension."""
    check_closed(gluing)
    check_dimension(dimension)
    below = border_divisors(gluing, dimension)
    above = border_divisors(gluing, dimension + 1)
    rank = counts_of_cells(gluing)[dimension] - len(below) - len(above)
    return (rank, [divisor for divisor in above if divisor > 1])


def number_modulo(gluing, dimension, prime):
    """Return the number modulo a prime for a dimension."""
    check_closed(gluing)
    check_dimension(dimension)
    if prime not in PRIMES:
        raise BadNumber("a prime is 2, 3, 5, 7, 11 or 13")
    # Modulo a prime the divisors that it divides are 0: the others make up the rank.
    found = border_divisors(gluing, dimension) + border_divisors(gluing, dimension + 1)
    left = [divisor for divisor in found if divisor % prime != 0]
    return counts_of_cells(gluing)[dimension] - len(left)


def homology_forms(gluing):
    """Return the tuple of diagonal forms of the border matrices of the dimensions 1, 2 and 3."""
    check_closed(gluing)
    counts = counts_of_cells(gluing)
    return tuple([diagonal_form(border_rows(gluing, k), counts[k - 1]) for k in (1, 2, 3)])


def filling(gluing, cycle):
    """Return a chain of dimension 2 that fills a cycle of dimension 1, or None."""
    check_closed(gluing)
    check_cycle(gluing, cycle)
    return combination(border_rows(gluing, 2), len(cycle), cycle)


def cycle_test(gluing, cycle):
    """Return a test of a cycle of dimension 1, or None."""
    check_closed(gluing)
    check_cycle(gluing, cycle)
    return test_weights(border_rows(gluing, 2), len(cycle), cycle)


def check_cycle(gluing, cycle):
    """Raise NotMatrix or BadNumber if a list is not a cycle of dimension 1 of a closed gluing."""
    check_vector(cycle, counts_of_cells(gluing)[1])
    if any([entry != 0 for entry in border_of_chain(gluing, 1, cycle)]):
        raise BadNumber("a chain is not a cycle")


def border_divisors(gluing, dimension):
    """Return the divisors of a border matrix; none for the dimensions 0 and 4."""
    if not 1 <= dimension <= GREATEST_DIMENSION:
        return []
    return divisors(border_rows(gluing, dimension), counts_of_cells(gluing)[dimension - 1])
