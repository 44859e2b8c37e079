"""How many pieces of surfaces fit to each other at glued faces: the conditions and their solutions.

The pieces of the kind k in the tetrahedron t have the column 7 t + k of a vector. A condition is a
dict that has factors for some columns: a vector that fits adds up to 0 with them.
"""

from math import gcd

from wedgespace.paths import face_pairs
from wedgespace.skeleton import corners_without

KINDS = 7
SQUARES = (4, 5, 6)


def square_parting(v, f):
    """Return the kind of the squares that part two corners of a tetrahedron from the other two."""
    # The corners 0 and 1 and the corners 2 and 3 differ in the same binary digits, and so on.
    return 3 + (v ^ f)


def arc_columns(t, v, f):
    """Return the columns of the pieces that have an arc of the corner v in the face f of t."""
    return (KINDS * t + v, KINDS * t + square_parting(v, f))


def conditions_of(gluing):
    """Return the list of the conditions for a vector that fits."""
    conditions = []
    for t, f, u, g in face_pairs(gluing):
        _, p = gluing[t][f]
        for v in corners_without([f]):
            terms = [(column, 1) for column in arc_columns(t, v, f)]
            terms.extend([(column, -1) for column in arc_columns(u, p[v], g)])
            conditions.append(condition_with(terms))
    return conditions


def condition_with(terms):
    """Return the condition of pairs of a column and a factor, which add up."""
    condition = {}
    for column, factor in terms:
        condition[column] = condition.get(column, 0) + factor
    return condition


def total_at(condition, vector):
    """Return what a vector adds up to with the factors of a condition."""
    return sum([factor * vector[column] for column, factor in condition.items()])


def common_divisor(entries):
    """Return the greatest common divisor of a list of integers; 0 if all of them are 0."""
    divisor = 0
    for entry in entries:
        divisor = gcd(divisor, entry)
    return divisor


def divided(entries):
    """Return integers, not all of them 0, divided by their greatest common divisor."""
    divisor = common_divisor(entries)
    return [entry // divisor for entry in entries]


def rank_among(conditions, columns):
    """Return the rank of the conditions if only some columns are looked at."""
    stairs = {}
    for condition in conditions:
        row = [condition.get(column, 0) for column in columns]
        for c in range(len(columns)):
            if row[c] == 0:
                continue
            if c not in stairs:
                stairs[c] = row
                break
            row = cleared(row, stairs[c], c)
    return len(stairs)


def cleared(row, stair, c):
    """Return a multiple of a row, plus a multiple of another one, that has the entry 0 at c."""
    a = stair[c]
    b = row[c]
    left = [a * entry - b * other for entry, other in zip(row, stair)]
    # Without this, the entries would grow with each row.
    return divided(left) if any(left) else left


def least_solutions(conditions, size, columns):
    """Return the list of the simple vectors among those that are 0 outside of some columns.

    These are the vectors in the corners of the cone of all vectors without negative entries that
    the conditions allow: the cone is cut by one condition after the other.
    """
    rays = [tuple([1 if k == column else 0 for k in range(size)]) for column in columns]
    for condition in conditions:
        rays = cut_by(rays, condition)
    return rays


def cut_by(rays, condition):
    """Return the corners of a cone that is cut by a condition, from those before the cut."""
    totals = [(total_at(condition, ray), ray) for ray in rays]
    found = {ray: True for total, ray in totals if total == 0}
    for a, one in totals:
        for b, other in totals:
            if b < 0 < a:
                between = [a * entry - b * more for entry, more in zip(other, one)]
                found[tuple(divided(between))] = True
    return with_least_supports(list(found))


def with_least_supports(rays):
    """Return the rays that are not 0 at more places than another one and at all of its places."""
    supports = [support_of(ray) for ray in rays]
    least = [is_least_support(support, supports) for support in supports]
    return [ray for ray, is_kept in zip(rays, least) if is_kept]


def support_of(ray):
    """Return an integer with the binary digit 1 for each entry that is not 0."""
    return sum([1 << k for k, entry in enumerate(ray) if entry != 0])


def is_least_support(support, supports):
    """Return True if no other support lies within a support."""
    return not any([other & support == other for other in supports if other != support])
