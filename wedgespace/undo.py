"""Moves that undo a move, and moves that go along with a renaming."""

from wedgespace.links import check_closed
from wedgespace.moves import check_move, gluing_behind, kept_tetrahedra, plan_of
from wedgespace.perms import IDENTITY, inverse_of, product_of
from wedgespace.renaming import check_renaming, inverse_of_renaming, renamed_gluing
from wedgespace.skeleton import EDGES, corners_without, index_of_edge


def undoing(gluing, move):
    """Return a pair of the move that undoes a move, and the renaming that leads back behind it."""
    check_closed(gluing)
    check_move(gluing, move)
    return undoing_of(gluing, move)


def carried(gluing, renaming, move):
    """Return a pair of the move that is renamed to a move, and the renaming behind both."""
    check_closed(gluing)
    check_renaming(len(gluing), renaming)
    check_move(renamed_gluing(gluing, renaming), move)
    return carried_back(gluing, renaming, move)


# The functions below take closed gluings and moves that can be made.


def undoing_of(gluing, move):
    """Return a pair of the move that undoes a move, and the renaming that leads back behind it."""
    old, outer, _ = plan_of(gluing, move)
    kept = kept_tetrahedra(gluing, old)
    first = len(kept)
    back = back_move(gluing, move, first)
    _, back_outer, _ = plan_of(gluing_behind(gluing, move), back)
    # An outer face of an old tetrahedron tells where the tetrahedron is behind both moves: all of
    # its outer faces tell the same.
    pairs = {k: (t, IDENTITY) for k, t in enumerate(kept)}
    for (t, g), (s, m) in outer.items():
        s_behind, m_behind = back_outer[(first + s, m[g])]
        pairs[first + s_behind] = (t, inverse_of(product_of(m, m_behind)))
    return (back, renaming_of(pairs))


def back_move(gluing, move, first):
    """Return the move that undoes a move whose new tetrahedra have the numbers from `first` on."""
    if move[0] == "split":
        return ("join", first, 0)
    if move[0] == "join":
        return ("split", first)
    _, _, k = move
    if move[0] == "face":
        # The new edge joins the corner f and the least other corner in the first new tetrahedron.
        return ("edge", first, index_of_edge(k, corners_without([k])[0]))
    # The new face is the one that lies opposite the lesser corner of the edge in the first one.
    return ("face", first, EDGES[k][0])


def carried_back(gluing, renaming, move):
    """Return the pair that `carried` returns; the move can be made in the renamed gluing."""
    other = renamed_gluing(gluing, renaming)
    back = move_before(renaming, move)
    old, outer, _ = plan_of(gluing, back)
    other_old, other_outer, _ = plan_of(other, move)
    kept = kept_tetrahedra(gluing, old)
    first = len(kept)
    numbers = {u: k for k, u in enumerate(kept_tetrahedra(other, other_old))}
    pairs = {}
    for k, t in enumerate(kept):
        u, p = renaming[t]
        pairs[k] = (numbers[u], p)
    # The renaming takes outer faces to outer faces, and so it takes new tetrahedra to new ones.
    for (t, g), (s, m) in outer.items():
        u, p = renaming[t]
        s_other, m_other = other_outer[(u, p[g])]
        pairs[first + s] = (first + s_other, product_of(product_of(inverse_of(m), p), m_other))
    return (back, renaming_of(pairs))


def move_before(renaming, move):
    """Return the move whose tetrahedron, corner, face or edge is renamed to that of a move."""
    t, p = inverse_of_renaming(renaming)[move[1]]
    if move[0] == "split":
        return ("split", t)
    kind, _, k = move
    if kind == "edge":
        i, j = EDGES[k]
        return ("edge", t, index_of_edge(p[i], p[j]))
    return (kind, t, p[k])


def renaming_of(pairs):
    """Return the renaming with a dict of the pairs of all tetrahedra."""
    return tuple([pairs[t] for t in range(len(pairs))])
