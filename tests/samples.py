"""Gluings and renamings for the tests."""

import itertools
import random

PERMUTATIONS = list(itertools.permutations(range(4)))

# One tetrahedron; closed and oriented.
EXAMPLE = "0:1023 0:1023 0:0132 0:0132"

# Two tetrahedra; closed, and it cannot be oriented.
ONE_SIDED = "1:0123 1:0123 1:1230 1:3012 / 0:0123 0:0123 0:1230 0:3012"

# Two tetrahedra; closed, with sides, and the rank of its homology of dimension 1 is 1.
HANDLE = "0:1230 0:3012 1:0123 1:0123 / 1:1230 1:3012 0:0123 0:0123"

# Two tetrahedra; closed, and its group is that of the eight quaternions 1, i, j, k and negatives.
QUATERNIONS = "1:0123 1:2301 1:3210 1:1032 / 0:0123 0:3210 0:1032 0:2301"

# One tetrahedron; closed, and its group has four words that commute.
FOURTH = "0:1230 0:3012 0:1230 0:3012"

# Three tetrahedra; closed. Its homology of dimension 1 is that of the one before, not its group.
PRISM = ("1:0123 1:2301 2:0123 2:2301 / 0:0123 2:3012 2:1230 0:2301"
         " / 1:1230 0:2301 0:0123 1:3012")

# Three tetrahedra; closed, without sides, and its homology has a rank and a divisor.
PLANE_CIRCLE = ("1:0123 1:0123 2:0123 2:2310 / 0:0123 0:0123 2:1032 2:3201"
                " / 0:3201 1:2310 0:0123 1:1032")

# One tetrahedron with one corner, whose link is a Klein bottle.
KLEIN = "0:1203 0:2013 0:0231 0:0312"

# Two tetrahedra with one corner, whose link is a torus.
TORUS = "0:1023 0:1023 1:0123 1:0231 / 1:3012 0:0312 0:0123 1:1230"

# Two tetrahedra with two corners, whose links are projective planes.
PLANES = "0:1023 0:1023 1:0123 1:0213 / 1:1203 1:2013 0:0123 0:0213"

# One tetrahedron whose links are spheres, but two of its edges are turned.
TURNED = "0:1032 0:1032 0:1032 0:1032"

# Tuples of integers that are no permutations.
NO_PERMUTATIONS = [
    (0, 0, 1, 2), (3, 3, 3, 3), (-1, 0, 1, 2), (0, 1, 2, -1), (1, 2, 3, 4), (0, 1, 2, 4),
    (0, 1, 2, 10 ** 30), (0, 1, -10 ** 30, 3), (0, 1, 2, 10 ** 5000), (0, 1, 2),
    (0, 1, 2, 3, 4), (0, 1, 2, 3, 3), (),
]


def row_of(words):
    """Return the row with four words."""
    entries = [word.split(":") for word in words.split()]
    return tuple((int(number), tuple(int(digit) for digit in digits)) for number, digits in entries)


def gluing_of(text):
    """Return the gluing with a text, without a check; several spaces may stand in it."""
    return tuple(row_of(words) for words in text.split("/"))


def product(*permutations):
    """Return the product of permutations, the first one first."""
    result = (0, 1, 2, 3)
    for one in permutations:
        result = tuple(one[i] for i in result)
    return result


def inverse(one):
    """Return the inverse of a permutation."""
    return tuple(one.index(i) for i in range(4))


def is_odd(one):
    """Return True if a permutation is odd: the number of its cycles has the parity of its size."""
    left = set(range(4))
    cycles = 0
    while left:
        at = min(left)
        cycles += 1
        while at in left:
            left.remove(at)
            at = one[at]
    return cycles % 2 == 1


def ring(p, q):
    """Return the gluing of p tetrahedra around an axis, turned by q; it is closed and oriented."""
    return tuple(
        (((i - q) % p, (1, 0, 2, 3)), ((i + q) % p, (1, 0, 2, 3)),
         ((i + 1) % p, (0, 1, 3, 2)), ((i - 1) % p, (0, 1, 3, 2)))
        for i in range(p))


def random_gluing(n, seed):
    """Return a right gluing of n tetrahedra, seldom a closed one."""
    rng = random.Random(f"gluing {n} {seed}")
    faces = [(t, f) for t in range(n) for f in range(4)]
    rng.shuffle(faces)
    rows = [[None] * 4 for _ in range(n)]
    for (t, f), (u, g) in zip(faces[::2], faces[1::2]):
        p = rng.choice([p for p in PERMUTATIONS if p[f] == g])
        rows[t][f] = (u, p)
        rows[u][g] = (t, inverse(p))
    return tuple(tuple(row) for row in rows)


def all_of_one():
    """Return all 108 gluings of one tetrahedron."""
    found = []
    for partner in (1, 2, 3):
        a, b = [f for f in (1, 2, 3) if f != partner]
        for p in PERMUTATIONS:
            for q in PERMUTATIONS:
                if p[0] == partner and q[a] == b:
                    row = [None] * 4
                    row[0], row[partner] = (0, p), (0, inverse(p))
                    row[a], row[b] = (0, q), (0, inverse(q))
                    found.append((tuple(row),))
    return found


def random_renaming(n, seed, parity=None):
    """Return a renaming for n tetrahedra; with a parity, all its permutations have that one."""
    rng = random.Random(f"renaming {n} {seed}")
    numbers = list(range(n))
    rng.shuffle(numbers)
    choice = [p for p in PERMUTATIONS if parity is None or is_odd(p) == parity]
    return tuple((u, rng.choice(choice)) for u in numbers)


def renamed_by_words(gluing, renaming):
    """Return the renamed gluing, as the document tells it, entry by entry."""
    rows = [[None] * 4 for _ in gluing]
    for t, (u, p) in enumerate(renaming):
        for f in range(4):
            v, q = gluing[t][f]
            w, s = renaming[v]
            r = [None] * 4
            for i in range(4):
                r[p[i]] = s[q[i]]
            rows[u][p[f]] = (w, tuple(r))
    return tuple(tuple(row) for row in rows)


def with_entry(gluing, t, f, entry):
    """Return the gluing with another entry for one face, and all other entries as they are."""
    rows = [list(row) for row in gluing]
    rows[t][f] = entry
    return tuple(tuple(row) for row in rows)


def placed(parts, order):
    """Return the gluing of several gluings whose tetrahedra get the told numbers, in turn."""
    rows = {}
    first = 0
    for part in parts:
        for t, row in enumerate(part):
            rows[order[first + t]] = tuple((order[first + u], p) for u, p in row)
        first += len(part)
    return tuple(rows[t] for t in range(first))


def sample_gluings():
    """Return right gluings of all sorts: closed or not, joined or not, small and large."""
    told = [gluing_of(text) for text in (EXAMPLE, ONE_SIDED, KLEIN, TORUS, PLANES, TURNED)]
    rings = [ring(1, 0), ring(2, 1), ring(5, 2), ring(6, 0), ring(12, 5), ring(40, 7)]
    others = [random_gluing(n, seed) for n in (1, 2, 3, 4, 7) for seed in range(12)]
    several = [placed([ring(3, 1), gluing_of(KLEIN), ring(2, 0)], [4, 1, 3, 0, 5, 2])]
    return told + rings + others + [random_gluing(40, 1)] + several


def wrong_gluings():
    """Return pairs of a tuple that is no gluing, and the number of its first wrong entry."""
    good = ring(5, 2)
    found = [((), 0), (ring(41, 1), 0), (ring(60, 7), 0), (random_gluing(41, 1), 0)]
    # Face 2 of 3 and face 3 of 4 are glued, and face 1 of 3 and face 0 of 0.
    for u in (-1, 5, 10 ** 30, -10 ** 30):
        found.append((with_entry(good, 3, 2, (u, (0, 1, 3, 2))), 14))
        found.append((with_entry(good, 4, 3, (u, (0, 1, 3, 2))), 14))
        found.append((with_entry(good, 3, 1, (u, (1, 0, 2, 3))), 0))
    for p in NO_PERMUTATIONS:
        found.append((with_entry(good, 3, 2, (4, p)), 14))
        found.append((with_entry(good, 0, 0, (3, p)), 0))
    # The other face of the pair is told, but another permutation, face or tetrahedron.
    found.append((with_entry(good, 3, 2, (4, (1, 0, 3, 2))), 14))
    found.append((with_entry(good, 3, 2, (4, (0, 3, 1, 2))), 14))
    found.append((with_entry(good, 3, 2, (2, (0, 1, 3, 2))), 14))
    # A face glued to itself, by a permutation that is its own inverse.
    found.append((gluing_of("0:0213 0:2103 0:0132 0:0132"), 0))
    found.append((gluing_of("0:1023 0:1023 0:1023 0:1023"), 2))
    found.append((gluing_of("0:1023 0:1023 0:0132 0:0132 / 1:1023 1:1023 1:0123 1:0123"), 6))
    return found


def closed_gluings():
    """Return closed gluings, with and without an orientation, of 1 to 12 tetrahedra."""
    rings = [ring(p, q) for p in range(1, 8) for q in range(p)] + [ring(12, 5)]
    names = [random_renaming(n, "closed") for n in (2, 5, 7)]
    turned = [renamed_by_words(ring(len(one), 1), one) for one in names]
    return rings + turned + [gluing_of(ONE_SIDED)]


def open_gluings():
    """Return right gluings that are not closed, for each of the reasons."""
    several = placed([ring(1, 0), ring(2, 1)], [0, 1, 2])
    told = [gluing_of(text) for text in (KLEIN, TORUS, PLANES, TURNED)]
    return [several] + told
