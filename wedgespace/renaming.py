"""Renamings of the tetrahedra of a gluing and of their corners."""

from wedgespace.errors import BadNumber, NotRenaming
from wedgespace.gluings import MOST_TETRAHEDRA, check_gluing
from wedgespace.perms import IDENTITY, inverse_of, is_permutation, product_of


def is_renaming(n, renaming):
    """Return True if a tuple of pairs is a renaming for n tetrahedra, otherwise False."""
    if len(renaming) != n or sorted([u for u, _ in renaming]) != list(range(n)):
        return False
    return all([is_permutation(p) for _, p in renaming])


def check_renaming(n, renaming):
    """Raise NotRenaming if a tuple of pairs is not a renaming for n tetrahedra."""
    if not is_renaming(n, renaming):
        raise NotRenaming("a tuple is not a renaming for the number of tetrahedra")


def same_names(n):
    """Return the renaming for n tetrahedra that changes nothing."""
    if not 1 <= n <= MOST_TETRAHEDRA:
        raise BadNumber("a gluing has 1 to 40 tetrahedra")
    return tuple([(t, IDENTITY) for t in range(n)])


def renamed(gluing, renaming):
    """Return the renamed gluing."""
    check_gluing(gluing)
    check_renaming(len(gluing), renaming)
    return renamed_gluing(gluing, renaming)


def renamed_gluing(gluing, renaming):
    """Return the renamed gluing, for arguments that were checked."""
    rows = [() for _ in gluing]
    for t, (u, p) in enumerate(renaming):
        back = inverse_of(p)
        rows[u] = tuple([renamed_entry(gluing[t][f], back, renaming) for f in back])
    return tuple(rows)


def renamed_entry(entry, back, renaming):
    """Return the renamed entry; `back` takes the new corners of its tetrahedron to the old ones."""
    v, q = entry
    w, s = renaming[v]
    return (w, tuple([s[q[i]] for i in back]))


def joined_renamings(one, other):
    """Return the product of two renamings, the first one first."""
    check_renaming(len(one), one)
    check_renaming(len(one), other)
    return product_of_renamings(one, other)


def product_of_renamings(one, other):
    """Return the product of two renamings that were checked."""
    return tuple([(other[u][0], product_of(p, other[u][1])) for u, p in one])


def undone_renaming(one):
    """Return the inverse of a renaming."""
    check_renaming(len(one), one)
    return inverse_of_renaming(one)


def inverse_of_renaming(one):
    """Return the inverse of a renaming that was checked."""
    back = [() for _ in one]
    for t, (u, p) in enumerate(one):
        back[u] = (t, inverse_of(p))
    return tuple(back)


def is_renaming_to(one, other, renaming):
    """Return True if a renaming leads from the first gluing to the second one, otherwise False."""
    check_gluing(one)
    check_gluing(other)
    return is_renaming(len(one), renaming) and renamed_gluing(one, renaming) == other
