"""The checker's own moves and ways.

Each move takes place among five corners with the names 0 to 4. Each of its tetrahedra, old or new,
has four of them, and the name that it lacks tells it: the old ones together have all five, and the
new ones are those that lack the other names. So the face of the old tetrahedron without a that lies
opposite b is the face of the new one without b that lies opposite a. The first old tetrahedron, t,
has the names of its own corners, except for a join, which takes the corner 4 away.
"""

from wedgespace.checker_spaces import ENDS, MOST, is_order

SAME = (0, 1, 2, 3)


def gluing_after(gluing, move):
    """Return the gluing behind a move, or None if it cannot be made or leads to too many tetrahedra."""
    if not has_right_numbers(gluing, move):
        return None
    old, new = tetrahedra_of(gluing, move)
    tetrahedra = [t for t, _ in old.values()]
    if len(set(tetrahedra)) < len(old) or not are_glued_inside(gluing, old):
        return None
    if len(gluing) + len(new) - len(old) > MOST:
        return None
    return with_new_inside(gluing, old, new)


def has_right_numbers(gluing, move):
    """Return True if the numbers of a move are those of a tetrahedron and of a part of it."""
    if not 0 <= move[1] < len(gluing):
        return False
    return move[0] == "split" or 0 <= move[2] < (6 if move[0] == "edge" else 4)


def with_name(at, name):
    """Return the names of the corners, if the corner `at` has another name."""
    return tuple([name if i == at else i for i in range(4)])


def beside(names, p, f, far):
    """Return the names of the tetrahedron behind the face f: its corner there is called `far`."""
    told = [0, 0, 0, 0]
    for i in range(4):
        told[p[i]] = far if i == f else names[i]
    return tuple(told)


def tetrahedra_of(gluing, move):
    """Return a pair of dicts by the names that tetrahedra lack.

    The first one has the pairs of the old tetrahedra and their names, the second one the names of
    the new ones, in their order.
    """
    t = move[1]
    if move[0] == "split":
        return ({4: (t, SAME)}, {f: with_name(f, 4) for f in SAME})
    at = move[2]
    if move[0] == "join":
        names = with_name(at, 4)
        old = {at: (t, names)}
        for j in SAME:
            if j != at:
                u, p = gluing[t][j]
                old[j] = (u, beside(names, p, j, at))
        return (old, {4: SAME})
    if move[0] == "face":
        u, p = gluing[t][at]
        old = {4: (t, SAME), at: (u, beside(SAME, p, at, 4))}
        return (old, {x: with_name(x, 4) for x in SAME if x != at})
    i, j = ENDS[at]
    old = {4: (t, SAME)}
    for k in SAME:
        if k not in (i, j):
            u, p = gluing[t][k]
            old[k] = (u, beside(SAME, p, k, 4))
    return (old, {j: with_name(j, 4), i: with_name(i, 4)})


def by_names(names, others):
    """Return the permutation that takes each corner to that of the same name, the last to the last."""
    left = [name for name in others if name not in names][0]
    return tuple([others.index(name if name in others else left) for name in names])


def are_glued_inside(gluing, old):
    """Return True if the old tetrahedra are glued to each other as their names tell."""
    for a, (t, names) in old.items():
        for b, (u, others) in old.items():
            if a != b and gluing[t][names.index(b)] != (u, by_names(names, others)):
                return False
    return True


def with_new_inside(gluing, old, new):
    """Return the gluing in which the new tetrahedra stand in place of the old ones."""
    replaced = [t for t, _ in old.values()]
    kept = [t for t in range(len(gluing)) if t not in replaced]
    numbers = {b: len(kept) + k for k, b in enumerate(new)}
    rows = [[None, None, None, None] for _ in range(len(kept) + len(new))]
    for b, names in new.items():
        for c, others in new.items():
            if c != b:
                rows[numbers[b]][names.index(c)] = (numbers[c], by_names(names, others))
    # For each face that stays: its tetrahedron behind the move, and where its corners are in it.
    moved = {(t, f): (k, SAME) for k, t in enumerate(kept) for f in SAME}
    for t, names in old.values():
        for b, others in new.items():
            moved[(t, names.index(b))] = (numbers[b], by_names(names, others))
    for (t, f), (w, corners) in moved.items():
        v, p = gluing[t][f]
        x, images = moved[(v, p[f])]
        taken = {corners[i]: images[p[i]] for i in SAME}
        rows[w][corners[f]] = (x, tuple([taken[i] for i in SAME]))
    return tuple([tuple(row) for row in rows])


def gluing_at_end(gluing, log):
    """Return the gluing behind the moves of a log, or None if one of them cannot be made."""
    for move in log:
        gluing = gluing_after(gluing, move)
        if gluing is None:
            return None
    return gluing


def is_renamed(one, other, renaming):
    """Return True if a tuple of pairs is a renaming that takes one gluing to the other one."""
    n = len(one)
    if len(renaming) != n or len(other) != n or sorted([u for u, _ in renaming]) != list(range(n)):
        return False
    if not all([is_order(p) for _, p in renaming]):
        return False
    return all([is_entry_renamed(one, other, renaming, t, f) for t in range(n) for f in SAME])


def is_entry_renamed(one, other, renaming, t, f):
    """Return True if a renaming takes an entry of one gluing to that of the other one."""
    u, p = renaming[t]
    v, q = one[t][f]
    w, s = renaming[v]
    x, r = other[u][p[f]]
    return x == w and all([r[p[i]] == s[q[i]] for i in SAME])
