"""Moves by the words of promises 60 to 66, and closed gluings at which they can be made."""

import functools
import itertools
import random

from tests.samples import ONE_SIDED, gluing_of, inverse, renamed_by_words, ring

EDGES = [(0, 1), (0, 2), (0, 3), (1, 2), (1, 3), (2, 3)]
SAME = {0: 0, 1: 1, 2: 2, 3: 3}
ADDED = {"split": 3, "join": -3, "face": 1, "edge": -1}
BACK = {"split": "join", "join": "split", "face": "edge", "edge": "face"}

# Behind the split of the only tetrahedron of the example.
SPLIT = ("1:1023 1:1023 2:2103 3:3120 / 0:1023 0:1023 2:0213 3:0321"
         " / 0:2103 1:0213 3:0132 3:0132 / 0:3120 1:0321 2:0132 2:0132")

# At the corner 1 of the tetrahedron 1 four different tetrahedra meet, glued to each other, but
# some of their faces by other permutations than behind a split.
MIXED_JOIN = ("2:1230 3:1230 4:0132 1:1230 / 0:3012 2:1023 3:2103 4:3120"
              " / 1:1023 0:3012 3:0213 4:0321 / 1:2103 2:0213 0:3012 4:0132"
              " / 1:3120 2:0321 3:0132 0:0132")

# Behind the faces of the tetrahedron 0 lie three others, which are not glued to each other.
APART_JOIN = ("3:0123 3:0123 2:1230 1:0132 / 2:0123 2:0123 0:0132 3:3012"
              " / 1:0123 1:0123 3:0132 0:3012 / 0:0123 0:0123 1:1230 2:0132")

# Around the edge 4 of the tetrahedron 0 the first three tetrahedra are different, and the third
# one is glued to the second one, but by another permutation than around three tetrahedra.
MIXED_EDGE = ("1:3210 1:1023 2:2103 2:1302 / 0:1023 2:1320 2:0213 0:3210"
              " / 0:2103 1:0213 0:2031 1:3021")

# Around the edge 0 of the tetrahedron 0 there are three edge places, two of them in the other one.
TWO_AROUND = "0:1023 0:1023 1:0123 1:2301 / 1:3201 0:2301 0:0123 1:2310"


def exchange(one, x, y):
    """Return the dict of a permutation with the values at x and y exchanged."""
    return {**dict(enumerate(one)), x: one[y], y: one[x]}


def backwards(one):
    return {image: i for i, image in one.items()}


def swap(x, y):
    return tuple(exchange((0, 1, 2, 3), x, y)[i] for i in range(4))


def others_than(*left_out):
    return [i for i in range(4) if i not in left_out]


def told_plan(gluing, move):
    """Return old tetrahedra, outer faces {(t, g): (s, m)} and entries between new tetrahedra."""
    kind, t = move[0], move[1]
    if kind == "split":
        inner = {(f, i): (i, swap(f, i)) for f in range(4) for i in others_than(f)}
        return [t], {(t, f): (f, SAME) for f in range(4)}, inner
    if kind == "join":
        i = move[2]
        old, outer = [t], {(t, i): (0, SAME)}
        for j in others_than(i):
            u, p = gluing[t][j]
            old.append(u)
            outer[(u, p[i])] = (0, backwards(exchange(p, i, j)))
        return old, outer, {}
    if kind == "face":
        f = move[2]
        u, p = gluing[t][f]
        outer, inner = {}, {}
        for s, x in enumerate(others_than(f)):
            outer[(t, x)] = (s, SAME)
            outer[(u, p[x])] = (s, backwards(exchange(p, f, x)))
            for r, y in enumerate(others_than(f)):
                if x != y:
                    inner[(s, y)] = (r, swap(x, y))
        return [t, u], outer, inner
    i, j = EDGES[move[2]]
    k, l = others_than(i, j)
    (u, p), (v, q) = gluing[t][k], gluing[t][l]
    outer = {
        (t, j): (0, SAME), (t, i): (1, SAME),
        (u, p[j]): (0, {p[i]: i, p[l]: l, p[k]: j, p[j]: k}),
        (u, p[i]): (1, {p[j]: j, p[l]: l, p[k]: i, p[i]: k}),
        (v, q[j]): (0, {q[i]: i, q[k]: k, q[l]: j, q[j]: l}),
        (v, q[i]): (1, {q[j]: j, q[k]: k, q[l]: i, q[i]: l})}
    return [t, u, v], outer, {(0, i): (1, swap(i, j)), (1, j): (0, swap(i, j))}


def told_gluing(gluing, move):
    """Return the gluing behind a move, by the words of promises 60 and 61."""
    old, outer, inner = told_plan(gluing, move)
    kept = [t for t in range(len(gluing)) if t not in old]
    rows = {}
    for k, t in enumerate(kept):
        for f, (u, p) in enumerate(gluing[t]):
            if u in kept:
                rows[(k, f)] = (kept.index(u), p)
    for (t, g), (s, m) in outer.items():
        v, p = gluing[t][g]
        if v in old:
            other, n = outer[(v, p[g])]
            entry = (len(kept) + other, tuple(n[p[backwards(m)[i]]] for i in range(4)))
            rows[(len(kept) + s, m[g])] = entry
        else:
            r = tuple(p[backwards(m)[i]] for i in range(4))
            rows[(len(kept) + s, m[g])] = (kept.index(v), r)
            rows[(kept.index(v), p[g])] = (len(kept) + s, inverse(r))
    for (s, f), (other, p) in inner.items():
        rows[(len(kept) + s, f)] = (len(kept) + other, p)
    count = len(gluing) + ADDED[move[0]]
    return tuple(tuple(rows[(t, f)] for f in range(4)) for t in range(count))


def told_can(gluing, move):
    """Return whether a move with right numbers can be made, by the words of 63 to 66."""
    kind, t = move[0], move[1]
    if kind == "split":
        return True
    if kind == "face":
        return gluing[t][move[2]][0] != t
    if kind == "join":
        i = move[2]
        behind = {j: gluing[t][j] for j in others_than(i)}
        if len({t} | {u for u, _ in behind.values()}) < 4:
            return False
        for j, k, l in itertools.permutations(others_than(i)):
            (u, p), (v, q) = behind[j], behind[k]
            w, r = gluing[u][p[k]]
            images = (r[p[i]], r[p[j]], r[p[k]], r[p[l]])
            if w != v or images != (q[i], q[k], q[j], q[l]):
                return False
        return True
    i, j = EDGES[move[2]]
    k, l = others_than(i, j)
    (u, p), (v, q) = gluing[t][k], gluing[t][l]
    w, r = gluing[u][p[l]]
    return len({t, u, v}) == 3 and w == v and (r[p[i]], r[p[j]], r[p[k]], r[p[l]]) == (q[i], q[j], q[l], q[k])


def told_moves(n):
    """Return all moves with right numbers for n tetrahedra, in their order."""
    splits = [("split", t) for t in range(n)]
    joins = [("join", t, i) for t in range(n) for i in range(4)]
    faces = [("face", t, f) for t in range(n) for f in range(4)]
    return splits + joins + faces + [("edge", t, e) for t in range(n) for e in range(6)]


def wandered(gluing, steps, seed):
    """Return the gluings behind moves that are chosen at random, with at most 7 tetrahedra."""
    rng = random.Random(f"wandered {seed}")
    found = [gluing]
    for _ in range(steps):
        moves = [move for move in told_moves(len(gluing)) if told_can(gluing, move)]
        moves = [move for move in moves if len(gluing) + ADDED[move[0]] <= 7]
        kind = rng.choice(sorted({move[0] for move in moves}))
        gluing = told_gluing(gluing, rng.choice([move for move in moves if move[0] == kind]))
        found.append(gluing)
    return found


@functools.lru_cache(maxsize=None)
def many_closed_gluings():
    """Return closed gluings of 1 to 7 tetrahedra at which all kinds of moves can be made."""
    found = [ring(p, q) for p in range(1, 5) for q in range(p)] + [ring(5, 2)]
    found += [gluing_of(text) for text in (ONE_SIDED, MIXED_JOIN, APART_JOIN, MIXED_EDGE, TWO_AROUND)]
    for seed, start in enumerate([ring(1, 0), ring(3, 1), ring(5, 2), gluing_of(ONE_SIDED)]):
        found += wandered(start, 7, seed)[1:]
    return tuple(dict.fromkeys(found))


def told_gluings(gluing, log):
    """Return the gluings of a log, by the words of the document, or None."""
    found = [gluing]
    for move in log:
        if move not in told_moves(len(found[-1])) or not told_can(found[-1], move):
            return None
        found.append(told_gluing(found[-1], move))
    return found


def is_told_way(one, other, way):
    """Return whether a pair is a way, by the words of the document."""
    gluings = told_gluings(one, way[0])
    if gluings is None or max(len(gluing) for gluing in gluings) > 40:
        return False
    if sorted(u for u, _ in way[1]) != list(range(len(gluings[-1]))):
        return False
    return renamed_by_words(gluings[-1], way[1]) == other
