"""Surfaces by the words of promises 180 to 188, and allowed vectors for the tests.

Pieces are looked at by their corners, the points in which they meet the edges of a tetrahedron: a
point is (t, a, b, k) with a < b, k counted on the edge from a on.
"""

import fractions
import functools
import itertools
import math

from tests.samples import (
    EXAMPLE, FOURTH, HANDLE, ONE_SIDED, PLANE_CIRCLE, PRISM, QUATERNIONS, gluing_of, random_renaming,
    renamed_by_words, ring)
from tests.told_moves import EDGES, many_closed_gluings
from wedgespace.skeleton import corner_classes, edge_classes

# Two tetrahedra; closed. Some of their simple vectors have entries of 2.
DOUBLE = "0:1230 0:3012 1:0123 1:2301 / 1:3201 0:2301 0:0123 1:2310"
OTHER_DOUBLE = "0:1023 0:1023 1:0123 1:0123 / 1:1230 1:3012 0:0123 0:0123"

# What the squares of each kind part.
PARTED = {4: ((0, 1), (2, 3)), 5: ((0, 2), (1, 3)), 6: ((0, 3), (1, 2))}


def parts_from(kind, a, b):
    """Return whether the squares of a kind part one corner from another one."""
    near, far = PARTED[kind]
    return (a in near) != (b in near)


def squares_beside(v, f):
    """Return the kind of the squares that part v and f from the other two corners."""
    return [kind for kind, halves in PARTED.items() if tuple(sorted((v, f))) in halves][0]


def told_conditions(gluing):
    """Return the rows of the conditions for vectors that fit, one for each face and each corner of it."""
    rows = []
    for t, f, v in itertools.product(range(len(gluing)), range(4), range(4)):
        if v != f:
            u, p = gluing[t][f]
            row = [0] * (7 * len(gluing))
            row[7 * t + v] += 1
            row[7 * t + squares_beside(v, f)] += 1
            row[7 * u + p[v]] -= 1
            row[7 * u + squares_beside(p[v], p[f])] -= 1
            rows.append(row)
    return rows


def told_fits(gluing, vector):
    return all(sum(x * y for x, y in zip(row, vector)) == 0 for row in told_conditions(gluing))


def squares_of(vector, t):
    return [kind for kind in (4, 5, 6) if vector[7 * t + kind]]


def told_allowed(gluing, vector):
    return told_fits(gluing, vector) and all(len(squares_of(vector, t)) < 2 for t in range(len(gluing)))


def told_weight(vector, t, e):
    a, b = EDGES[e]
    counts = vector[7 * t:7 * t + 7]
    return counts[a] + counts[b] + sum(counts[kind] for kind in PARTED if parts_from(kind, a, b))


def told_weights(gluing, vector):
    return [told_weight(vector, *places[0]) for places in edge_classes(gluing)]


def rank_of(rows):
    """Return the rank of rows of integers, by rational numbers."""
    rows = [[fractions.Fraction(x) for x in row] for row in rows]
    rank = 0
    for j in range(len(rows[0]) if rows else 0):
        at = next((i for i in range(rank, len(rows)) if rows[i][j]), None)
        if at is not None:
            rows[rank], rows[at] = rows[at], rows[rank]
            for i in range(rank + 1, len(rows)):
                if rows[i][j]:
                    factor = rows[i][j] / rows[rank][j]
                    rows[i] = [x - factor * y for x, y in zip(rows[i], rows[rank])]
            rank += 1
    return rank


def told_simple(gluing, vector):
    """Return whether an allowed vector is simple."""
    columns = [k for k, x in enumerate(vector) if x]
    rows = [[row[k] for k in columns] for row in told_conditions(gluing)]
    return math.gcd(*vector) == 1 and len(columns) - rank_of(rows) == 1


@functools.lru_cache(maxsize=None)
def told_simple_vectors(gluing, most=2):
    """Return the simple vectors whose entries are at most a number."""
    rows = told_conditions(gluing)
    found = []
    for squares in itertools.product((None, 4, 5, 6), repeat=len(gluing)):
        counts = [[range(most + 1)] * 4 + [range(1, most + 1) if kind == k else (0,) for k in (4, 5, 6)]
                  for kind in squares]
        columns = [choice for part in counts for choice in part]
        found += [vector for vector in fitting(rows, columns) if any(vector) and told_simple(gluing, vector)]
    return sorted(found)


def fitting(rows, choices):
    """Return the vectors with told choices for their entries that add up to 0 with all rows."""
    beginnings = [()]
    for k, choice in enumerate(choices):
        done = [row for row in rows if row[k] and not any(row[k + 1:])]
        beginnings = [(*one, x) for one in beginnings for x in choice]
        for row in done:
            beginnings = [one for one in beginnings if sum(x * y for x, y in zip(one, row)) == 0]
    return [list(one) for one in beginnings]


def told_link(gluing, k):
    vector = [0] * (7 * len(gluing))
    for t, v in corner_classes(gluing)[k]:
        vector[7 * t + v] = 1
    return vector


def told_pieces(vector):
    return [(at // 7, at % 7, k) for at, count in enumerate(vector) for k in range(count)]


def told_points(vector, piece):
    """Return the points of a piece, in an order in which one goes around it."""
    t, kind, number = piece
    if kind < 4:
        steps = [(kind, b, number) for b in range(4) if b != kind]
    else:
        (_, x), (y, z) = PARTED[kind]
        # Along each edge, away from the edge of 0 and x, lie first the triangles of its end there.
        steps = [(a, b, vector[7 * t + a] + number) for a, b in ((0, y), (x, y), (x, z), (0, z))]
    return [point_on(vector, t, a, b, k) for a, b, k in steps]


def point_on(vector, t, a, b, k):
    """Return the point that is told by its place k from a on."""
    if a < b:
        return (t, a, b, k)
    return (t, b, a, told_weight(vector, t, EDGES.index((b, a))) - 1 - k)


def told_arcs(vector, piece):
    """Return a dict with the ordered pair of the points of the arc of a piece in each face."""
    points = told_points(vector, piece)
    arcs = {}
    for one, other in zip(points, points[1:] + points[:1]):
        [face] = set(range(4)) - {*one[1:3], *other[1:3]}
        arcs[face] = (one, other)
    return arcs


def behind(gluing, vector, point, f):
    """Return the point on the other side of a face."""
    t, a, b, k = point
    u, p = gluing[t][f]
    return point_on(vector, u, p[a], p[b], k)


def told_joined(gluing, vector):
    """Return a dict that has for each piece and each of its faces the piece joined to it there.

    The joined piece stands in a pair with True if the arc goes the same way around it.
    """
    owners = {}
    for piece in told_pieces(vector):
        for f, (one, other) in told_arcs(vector, piece).items():
            owners[(f, one, other)] = (piece, True)
            owners[(f, other, one)] = (piece, False)
    joined = {}
    for piece in told_pieces(vector):
        for f, (one, other) in told_arcs(vector, piece).items():
            face = gluing[piece[0]][f][1][f]
            key = (face, behind(gluing, vector, one, f), behind(gluing, vector, other, f))
            joined[(piece, f)] = owners[key]
    return joined


def told_neighbours(gluing, vector, piece):
    joined = told_joined(gluing, vector)
    return [joined[(piece, f)][0] for f in range(4) if (piece, f) in joined]


def told_parts(gluing, vector):
    """Return the lists of the pieces of the parts, in the order of their least pieces."""
    joined = told_joined(gluing, vector)
    label = {piece: piece for piece in told_pieces(vector)}
    changed = True
    while changed:
        changed = False
        for (piece, _), (other, _) in joined.items():
            least = min(label[piece], label[other])
            changed = changed or label[piece] != least or label[other] != least
            label[piece] = label[other] = least
    return [[piece for piece in label if label[piece] == least] for least in sorted(set(label.values()))]


def told_has_turns(gluing, vector):
    """Return whether all pieces can be turned so that turns go along arcs in opposite directions."""
    joined = told_joined(gluing, vector)
    turns = {}
    for start in told_pieces(vector):
        if start not in turns:
            turns[start] = 1
            queue = [start]
            for piece in queue:
                for f in range(4):
                    if (piece, f) in joined:
                        other, same = joined[(piece, f)]
                        turn = -turns[piece] if same else turns[piece]
                        if other not in turns:
                            queue.append(other)
                        if turns.setdefault(other, turn) != turn:
                            return False
    return True


def told_euler(gluing, vector):
    """Return the number of the points, minus that of the arcs, plus that of the pieces of a surface."""
    points = {}
    for piece in told_pieces(vector):
        for point in told_points(vector, piece):
            points[point] = point
    changed = True
    while changed:
        changed = False
        for point in points:
            t, a, b, _ = point
            for f in set(range(4)) - {a, b}:
                other = behind(gluing, vector, point, f)
                least = min(points[point], points[other])
                changed = changed or points[point] != least or points[other] != least
                points[point] = points[other] = least
    return len(set(points.values())) - len(told_joined(gluing, vector)) // 2 + len(told_pieces(vector))


def added(*vectors):
    return [sum(entries) for entries in zip(*vectors)]


def times(factor, vector):
    return [factor * x for x in vector]


def told_agree(one, other):
    return all(len(squares_of(added(one, other), t)) < 2 for t in range(len(one) // 7))


@functools.lru_cache(maxsize=None)
def small_gluings():
    """Return closed gluings of one and of two tetrahedra."""
    told = [gluing_of(text) for text in (EXAMPLE, FOURTH, HANDLE, ONE_SIDED, QUATERNIONS)]
    turned = [renamed_by_words(one, random_renaming(len(one), "surfaces")) for one in told[1:]]
    return tuple(told + turned + [ring(2, 0), ring(2, 1), gluing_of(DOUBLE), gluing_of(OTHER_DOUBLE)])


@functools.lru_cache(maxsize=None)
def surfaces():
    """Return pairs of a closed gluing and an allowed vector, with few and with many squares."""
    found = []
    for gluing in small_gluings():
        simple = told_simple_vectors(gluing)
        link = told_link(gluing, 0)
        for k, one in enumerate(simple):
            found.append((gluing, tuple(one)))
            found.append((gluing, tuple(added(times(3, one), link))))
            for other in simple[:k]:
                if told_agree(one, other):
                    found.append((gluing, tuple(added(times(2, one), other))))
                    found.append((gluing, tuple(added(one, times(3, other), link))))
    for gluing in [gluing_of(PLANE_CIRCLE), gluing_of(PRISM), ring(5, 2), *many_closed_gluings()[::6]]:
        links = [told_link(gluing, k) for k in range(len(corner_classes(gluing)))]
        found.append((gluing, tuple(added(*links, links[0]))))
        found += [(gluing, vector) for vector in squares_in(gluing)]
    return tuple(found)


def squares_in(gluing):
    """Return a few allowed vectors with squares, for a gluing of at most 4 tetrahedra."""
    found = []
    if len(gluing) < 5:
        for squares in itertools.product((4, 5, 6), repeat=len(gluing)):
            choices = [(0, 1) if k < 4 or k == kind else (0,) for kind in squares for k in range(7)]
            found += [tuple(one) for one in fitting(told_conditions(gluing), choices) if any(one[4::7] + one[5::7])]
    return sorted(set(found))[:12]
