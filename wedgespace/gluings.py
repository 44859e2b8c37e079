"""Gluings of tetrahedra: whether they are right, their pieces, and their orientation."""

from wedgespace.errors import NotGluing, NotJoined, TooLarge
from wedgespace.perms import exchanging, has_odd_sign, inverse_of, is_permutation, product_of
from wedgespace.places import chosen_sides, classes_of, reached

MOST_TETRAHEDRA = 40


def is_gluing(gluing):
    """Return True if the gluing is right and has 1 to 40 tetrahedra, otherwise False."""
    return first_wrong_entry(gluing) is None


def check_gluing(gluing):
    """Raise NotGluing with the number of the first entry that is not right."""
    at = first_wrong_entry(gluing)
    if at is not None:
        raise NotGluing(at)


def first_wrong_entry(gluing):
    """Return the number of the first entry that is not right, or None."""
    if not 1 <= len(gluing) <= MOST_TETRAHEDRA:
        return 0
    for t in range(len(gluing)):
        for f in range(4):
            if not is_right_entry(gluing, t, f):
                return 4 * t + f
    return None


def is_right_entry(gluing, t, f):
    """Return True if the entry of the face f of t is right, whatever the other entries are."""
    u, p = gluing[t][f]
    if not 0 <= u < len(gluing) or not is_permutation(p):
        return False
    if u == t and p[f] == f:
        return False
    return gluing[u][p[f]] == (t, inverse_of(p))


def is_joined(gluing):
    """Return True if the gluing has only one piece, otherwise False."""
    check_gluing(gluing)
    return is_one_piece(gluing)


def is_one_piece(gluing):
    """Return True if a gluing that was checked has only one piece."""
    return len(reached(neighbour_links(gluing), 0)) == len(gluing)


def check_joined(gluing):
    """Raise NotJoined if a gluing that was checked has several pieces."""
    if not is_one_piece(gluing):
        raise NotJoined("the gluing has several pieces")


def neighbour_links(gluing):
    """Return the table of links of the tetrahedra: those behind their faces."""
    return {t: [u for u, _ in gluing[t]] for t in range(len(gluing))}


def pieces(gluing):
    """Return the list of the pieces, in the order of their least tetrahedra."""
    check_gluing(gluing)
    return [piece_of(gluing, members) for members in classes_of(neighbour_links(gluing))]


def piece_of(gluing, members):
    """Return the gluing that consists of the tetrahedra of a piece, which ascend."""
    numbers = {t: k for k, t in enumerate(members)}
    return tuple([tuple([(numbers[u], p) for u, p in gluing[t]]) for t in members])


def union(one, other):
    """Return the union of two gluings."""
    check_gluing(one)
    check_gluing(other)
    first = len(one)
    if first + len(other) > MOST_TETRAHEDRA:
        raise TooLarge("the union has more than 40 tetrahedra")
    return one + tuple([tuple([(first + u, p) for u, p in row]) for row in other])


def mirror(gluing):
    """Return the mirror image of a gluing."""
    check_gluing(gluing)
    s = exchanging(2, 3)
    rows = [[(u, product_of(product_of(s, p), s)) for u, p in row] for row in gluing]
    return tuple([tuple([row[s[f]] for f in range(4)]) for row in rows])


def is_oriented(gluing):
    """Return True if the permutations of all entries are odd, otherwise False."""
    check_gluing(gluing)
    return all([has_odd_sign(p) for row in gluing for _, p in row])


def sides(gluing):
    """Return the list that tells for each tetrahedron whether its permutation is odd, or None."""
    check_gluing(gluing)
    check_joined(gluing)
    return sides_of(gluing)


def sides_of(gluing):
    """Return the sides of the tetrahedra of a joined gluing that was checked, or None."""
    # The renamed permutation of an entry has the signs of the entry and of both renamings in it:
    # it is odd if an odd entry joins two equal renamings, or an even one two different ones.
    links = {t: [(u, has_odd_sign(p)) for u, p in gluing[t]] for t in range(len(gluing))}
    odd = chosen_sides(links, 0)
    if odd is None:
        return None
    return [odd[t] for t in range(len(gluing))]
