"""Walk forms, the standard form, and all renamings from one gluing to another one."""

from wedgespace.errors import BadNumber, TooLarge
from wedgespace.gluings import check_gluing, check_joined
from wedgespace.perms import IDENTITY, all_permutations, inverse_of, is_permutation, product_of, taking
from wedgespace.renaming import renamed_entry

MOST_FOR_FORMS = 12


def check_size(gluing):
    """Raise NotJoined or TooLarge if a gluing that was checked has no form here."""
    check_joined(gluing)
    if len(gluing) > MOST_FOR_FORMS:
        raise TooLarge("the gluing has more than 12 tetrahedra")


def walk_form(gluing, t, p):
    """Return the pair of the walk form and of the renaming that leads to it."""
    check_gluing(gluing)
    check_size(gluing)
    if not 0 <= t < len(gluing) or not is_permutation(p):
        raise BadNumber("a walk begins with a tetrahedron and a permutation")
    return walk_below(gluing, t, p, None)


def standard_form(gluing):
    """Return the standard form."""
    check_gluing(gluing)
    check_size(gluing)
    form, _ = least_walk(gluing)
    return form


def standard_renaming(gluing):
    """Return the first renaming that leads to the standard form."""
    check_gluing(gluing)
    check_size(gluing)
    _, renaming = least_walk(gluing)
    return renaming


def least_walk(gluing):
    """Return the pair of the least walk form and of the first renaming that leads to it."""
    least = walk_below(gluing, 0, IDENTITY, None)
    for t, p in beginnings(gluing):
        found = walk_below(gluing, t, p, least[0])
        if found is not None:
            least = found
    return least


def beginnings(gluing):
    """Return the list of all pairs (t, p) with which a walk can begin, in ascending order."""
    permutations = all_permutations()
    return [(t, p) for t in range(len(gluing)) for p in permutations]


def walk_below(gluing, t, p, bound):
    """Return the walk form and its renaming, or None if the form is not less than the bound.

    The bound is a walk form, or None for no bound.
    """
    order = [t]
    names = {t: (0, p)}
    rows = []
    is_less = bound is None
    for k in range(len(gluing)):
        here = order[k]
        back = inverse_of(names[here][1])
        entries = [gluing[here][f] for f in back]
        name_neighbours(entries, names[here][1], order, names)
        row = tuple([renamed_entry(entry, back, names) for entry in entries])
        # The first row that differs decides: most walks need not be finished.
        if not is_less and row != bound[k]:
            if row > bound[k]:
                return None
            is_less = True
        rows.append(row)
    if not is_less:
        return None
    return (tuple(rows), tuple([names[u] for u in range(len(gluing))]))


def name_neighbours(entries, p, order, names):
    """Name the tetrahedra of the entries of a tetrahedron with the new corners p, if they have none.

    `order` lists the tetrahedra by their new numbers, and `names` has their pairs of a renaming.
    """
    for v, q in entries:
        if v not in names:
            names[v] = (len(order), product_of(inverse_of(q), p))
            order.append(v)


def renamings(one, other):
    """Return the list of all renamings from the first gluing to the second one, ascending."""
    check_gluing(one)
    check_gluing(other)
    check_size(one)
    check_size(other)
    if len(one) != len(other):
        return []
    told = [spread_renaming(one, other, pair) for pair in beginnings(other)]
    return sorted([renaming for renaming in told if renaming is not None])


def some_renaming(one, other):
    """Return a renaming from one joined gluing to another one, of any size, or None."""
    if len(one) != len(other):
        return None
    for pair in beginnings(other):
        renaming = spread_renaming(one, other, pair)
        if renaming is not None:
            return renaming
    return None


def spread_renaming(one, other, pair):
    """Return the renaming with this pair of the tetrahedron 0, or None if there is none.

    Both gluings are joined and have as many tetrahedra.
    """
    pairs = {0: pair}
    order = [0]
    at = 0
    while at < len(order):
        t = order[at]
        u, p = pairs[t]
        for f, (v, q) in enumerate(one[t]):
            w, r = other[u][p[f]]
            # The corner q[i] of v lies on the corner i of t, and so is renamed to r[p[i]] of w.
            told = (w, taking(q, product_of(p, r)))
            if v not in pairs:
                pairs[v] = told
                order.append(v)
            elif pairs[v] != told:
                return None
        at += 1
    return tuple([pairs[t] for t in range(len(one))])


def symmetries(gluing):
    """Return the list of all renamings from a gluing to itself, in ascending order."""
    return renamings(gluing, gluing)
