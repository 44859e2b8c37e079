"""Moves: some tetrahedra of a closed gluing are replaced by new ones.

The plan of a move is a tuple (old, outer, inner). `old` is the list of the old tetrahedra. `outer`
has, for each outer face (t, g) of an old tetrahedron, the pair (s, m) of the index of a new
tetrahedron and the permutation. `inner` has, for each face (s, g) between new tetrahedra, its entry
with the index of the other one.
"""

from wedgespace.errors import BadMove, BadNumber, TooLarge
from wedgespace.gluings import MOST_TETRAHEDRA
from wedgespace.links import check_closed
from wedgespace.perms import IDENTITY, exchanging, inverse_of, product_of, taking
from wedgespace.skeleton import EDGES, corners_without

# How many tetrahedra each kind of move adds, in the order of the kinds.
ADDED = {"split": 3, "join": -3, "face": 1, "edge": -1}


def can(gluing, move):
    """Return True if the move can be made, otherwise False."""
    check_closed(gluing)
    return is_possible(gluing, move)


def made(gluing, move):
    """Return the gluing behind the move."""
    check_closed(gluing)
    check_move(gluing, move)
    return gluing_behind(gluing, move)


def check_move(gluing, move):
    """Raise BadMove(0) or TooLarge if a move of a closed gluing cannot be made."""
    if not is_possible(gluing, move):
        raise BadMove(0)
    if size_behind(gluing, move) > MOST_TETRAHEDRA:
        raise TooLarge("the gluing behind the move has more than 40 tetrahedra")


def size_behind(gluing, move):
    """Return the number of tetrahedra that there are behind a move."""
    return len(gluing) + ADDED[move[0]]


def moves_of(gluing, *, kinds=("split", "join", "face", "edge")):
    """Return the list of all moves of the told kinds that can be made, in their order."""
    check_closed(gluing)
    if not all([kind in ADDED for kind in kinds]):
        raise BadNumber("there is no such kind of moves")
    return moves_of_kinds(gluing, kinds)


def moves_of_kinds(gluing, kinds):
    """Return the list of the moves of a closed gluing that are of the told kinds, in their order."""
    moves = []
    for kind in ADDED:
        if kind in kinds:
            moves.extend(moves_of_kind(gluing, kind))
    return moves


def moves_of_kind(gluing, kind):
    """Return the list of the moves of one kind that can be made, by their numbers."""
    if kind == "split":
        return [("split", t) for t in range(len(gluing))]
    count = len(EDGES) if kind == "edge" else 4
    told = [(kind, t, k) for t in range(len(gluing)) for k in range(count)]
    return [move for move in told if is_possible(gluing, move)]


# The functions below take closed gluings.


def is_possible(gluing, move):
    """Return True if the move can be made, whatever its numbers are."""
    if not 0 <= move[1] < len(gluing):
        return False
    if move[0] == "split":
        return True
    _, t, k = move
    if move[0] == "edge":
        return 0 <= k < len(EDGES) and is_edge_possible(gluing, t, k)
    if not 0 <= k < 4:
        return False
    if move[0] == "join":
        return is_join_possible(gluing, t, k)
    return gluing[t][k][0] != t


def is_join_possible(gluing, t, i):
    """Return True if four tetrahedra meet at the corner i of t as behind a split."""
    others = corners_without([i])
    behind = [gluing[t][j][0] for j in others]
    if len(set([t, *behind])) < 4:
        return False
    return all([is_pair_as_split(gluing, t, i, j, k) for j in others for k in others if j != k])


def is_pair_as_split(gluing, t, i, j, k):
    """Return True if the tetrahedra behind the faces j and k of t are glued as behind a split."""
    l = 6 - i - j - k
    u, p = gluing[t][j]
    v, q = gluing[t][k]
    return gluing[u][p[k]] == (v, taking((p[i], p[j], p[k], p[l]), (q[i], q[k], q[j], q[l])))


def is_edge_possible(gluing, t, e):
    """Return True if three different tetrahedra meet at the edge e of t."""
    i, j = EDGES[e]
    k, l = corners_without([i, j])
    u, p = gluing[t][k]
    v, q = gluing[t][l]
    if u == t or v == t or u == v:
        return False
    return gluing[u][p[l]] == (v, taking((p[i], p[j], p[k], p[l]), (q[i], q[j], q[l], q[k])))


def gluing_behind(gluing, move):
    """Return the gluing behind a move that can be made."""
    old, outer, inner = plan_of(gluing, move)
    return replaced(gluing, old, outer, inner, len(old) + ADDED[move[0]])


def plan_of(gluing, move):
    """Return the plan of a move that can be made."""
    if move[0] == "split":
        return split_plan(move[1])
    kind, t, k = move
    if kind == "join":
        return join_plan(gluing, t, k)
    if kind == "face":
        return face_plan(gluing, t, k)
    return edge_plan(gluing, t, k)


def split_plan(t):
    """Return the plan of a split."""
    outer = {(t, f): (f, IDENTITY) for f in range(4)}
    inner = {(f, i): (i, exchanging(f, i)) for f in range(4) for i in range(4) if i != f}
    return ([t], outer, inner)


def join_plan(gluing, t, i):
    """Return the plan of a join."""
    old = [t]
    outer = {(t, i): (0, IDENTITY)}
    for j in corners_without([i]):
        u, p = gluing[t][j]
        q = product_of(exchanging(i, j), p)
        old.append(u)
        outer[(u, p[i])] = (0, inverse_of(q))
    return (old, outer, {})


def face_plan(gluing, t, f):
    """Return the plan of a face move."""
    u, p = gluing[t][f]
    corners = corners_without([f])
    outer = {}
    inner = {}
    for s, x in enumerate(corners):
        q = product_of(exchanging(f, x), p)
        outer[(t, x)] = (s, IDENTITY)
        outer[(u, p[x])] = (s, inverse_of(q))
        for r, y in enumerate(corners):
            if y != x:
                inner[(s, y)] = (r, exchanging(x, y))
    return ([t, u], outer, inner)


def edge_plan(gluing, t, e):
    """Return the plan of an edge move."""
    i, j = EDGES[e]
    k, l = corners_without([i, j])
    u, p = gluing[t][k]
    v, q = gluing[t][l]
    outer = {
        (t, j): (0, IDENTITY),
        (t, i): (1, IDENTITY),
        (u, p[j]): (0, taking((p[i], p[l], p[k], p[j]), (i, l, j, k))),
        (u, p[i]): (1, taking((p[j], p[l], p[k], p[i]), (j, l, i, k))),
        (v, q[j]): (0, taking((q[i], q[k], q[l], q[j]), (i, k, j, l))),
        (v, q[i]): (1, taking((q[j], q[k], q[l], q[i]), (j, k, i, l))),
    }
    inner = {(0, i): (1, exchanging(i, j)), (1, j): (0, exchanging(i, j))}
    return ([t, u, v], outer, inner)


def kept_tetrahedra(gluing, old):
    """Return the ascending list of the tetrahedra that a move does not replace."""
    return [t for t in range(len(gluing)) if t not in old]


def replaced(gluing, old, outer, inner, count):
    """Return the gluing behind a plan with a number of new tetrahedra."""
    kept = kept_tetrahedra(gluing, old)
    first = len(kept)
    # The faces of the other tetrahedra go along with them: then all faces that do not vanish are
    # treated alike, on whichever side of them a tetrahedron is replaced.
    moved = {(t, f): (k, IDENTITY) for k, t in enumerate(kept) for f in range(4)}
    for face, (s, m) in outer.items():
        moved[face] = (first + s, m)
    rows = [[None, None, None, None] for _ in range(first + count)]
    for (t, f), (w, m) in moved.items():
        v, p = gluing[t][f]
        x, n = moved[(v, p[f])]
        rows[w][m[f]] = (x, product_of(product_of(inverse_of(m), p), n))
    for (s, f), (r, p) in inner.items():
        rows[first + s][f] = (first + r, p)
    return tuple([tuple(row) for row in rows])
