"""Permutations of the four numbers 0 to 3."""

from wedgespace.errors import BadNumber

IDENTITY = (0, 1, 2, 3)


def is_permutation(entries):
    """Return True if a tuple of integers is a permutation, otherwise False."""
    return sorted(entries) == [0, 1, 2, 3]


def check_permutation(entries):
    """Raise BadNumber if a tuple of integers is not a permutation."""
    # The message does not show the integers: they may have more digits than Python writes.
    if not is_permutation(entries):
        raise BadNumber("a tuple is not a permutation of 0, 1, 2, 3")


def after(one, other):
    """Return the product of two permutations, the first one first."""
    check_permutation(one)
    check_permutation(other)
    return product_of(one, other)


def inverse(one):
    """Return the inverse of a permutation."""
    check_permutation(one)
    return inverse_of(one)


def is_odd(one):
    """Return True if a permutation is odd, False if it is even."""
    check_permutation(one)
    return has_odd_sign(one)


def all_permutations():
    """Return the list of all 24 permutations in ascending order."""
    tuples = [(a, b, c, 6 - a - b - c) for a in range(4) for b in range(4) for c in range(4)]
    return [entries for entries in tuples if is_permutation(entries)]


def index_of(one):
    """Return the index of a permutation in the list of all of them."""
    check_permutation(one)
    return all_permutations().index(one)


# The functions below do not check their arguments, which other modules have checked already.


def product_of(one, other):
    """Return the product of two permutations, the first one first."""
    return tuple([other[i] for i in one])


def inverse_of(one):
    """Return the inverse of a permutation."""
    return taking(one, IDENTITY)


def has_odd_sign(one):
    """Return True if an odd number of exchanges sorts a tuple of different integers."""
    turned = [(i, j) for j in range(len(one)) for i in range(j) if one[i] > one[j]]
    return len(turned) % 2 == 1


def taking(places, images):
    """Return the permutation that takes each of four places to the image at the same index."""
    taken = [0, 0, 0, 0]
    for at, place in enumerate(places):
        taken[place] = images[at]
    return tuple(taken)


def exchanging(x, y):
    """Return the permutation that exchanges two numbers."""
    taken = list(IDENTITY)
    taken[x] = y
    taken[y] = x
    return tuple(taken)
