"""The pieces of the surface of an allowed vector, how they are joined, and the parts of the surface.

A piece is a tuple (t, kind, number). It has one arc in each face that it meets: the arc of a corner
v in a face f.
"""

from wedgespace.errors import BadNumber, TooLarge
from wedgespace.links import check_closed
from wedgespace.matching import KINDS, SQUARES, arc_columns, square_parting
from wedgespace.perms import has_odd_sign
from wedgespace.places import chosen_sides, classes_of
from wedgespace.surfaces import check_allowed

MOST_PIECES = 500


def pieces(gluing, vector):
    """Return the ascending list of the names of all pieces."""
    check_pieces(gluing, vector)
    return piece_names(vector)


def neighbours(gluing, vector, piece):
    """Return the list of the pieces that are joined to a piece, by the faces of its arcs."""
    check_pieces(gluing, vector)
    if piece not in piece_names(vector):
        raise BadNumber("there is no such piece")
    return neighbours_of(gluing, vector, piece)


def parts(gluing, vector):
    """Return the list of the vectors of the parts, in the order of their least pieces."""
    check_pieces(gluing, vector)
    links = {piece: neighbours_of(gluing, vector, piece) for piece in piece_names(vector)}
    return [vector_of(members, len(vector)) for members in classes_of(links)]


def has_turns(gluing, vector):
    """Return True if every part has turns, otherwise False."""
    check_pieces(gluing, vector)
    links = {piece: turned_neighbours(gluing, vector, piece) for piece in piece_names(vector)}
    untold = {piece: True for piece in links}
    while untold != {}:
        turns = chosen_sides(links, list(untold)[0])
        if turns is None:
            return False
        untold = {piece: True for piece in untold if piece not in turns}
    return True


def check_pieces(gluing, vector):
    """Raise NotGluing, NotClosed, NotVector, or TooLarge if there are too many pieces."""
    check_closed(gluing)
    check_allowed(gluing, vector)
    if sum(vector) > MOST_PIECES:
        raise TooLarge("the surface has more than 500 pieces")


# The functions below take closed gluings, allowed vectors and pieces that there are.


def piece_names(vector):
    """Return the ascending list of the names of all pieces."""
    return [(at // KINDS, at % KINDS, k) for at, count in enumerate(vector) for k in range(count)]


def vector_of(members, size):
    """Return the vector that counts pieces."""
    vector = [0 for _ in range(size)]
    for t, kind, _ in members:
        vector[KINDS * t + kind] += 1
    return vector


def arcs_of(kind):
    """Return the pairs (v, f) of the arcs of a piece, in ascending order of the faces."""
    if kind in SQUARES:
        return [(v, f) for f in range(4) for v in range(4) if v != f and square_parting(v, f) == kind]
    return [(kind, f) for f in range(4) if f != kind]


def arc_number(vector, piece, v, f):
    """Return the number of the arc of a piece among the arcs of the corner v in the face f."""
    t, kind, number = piece
    if kind not in SQUARES:
        return number
    triangles, squares = arc_columns(t, v, f)
    # The squares are numbered beginning at the edge with the corner 0, their arcs from v on.
    steps = number if 0 in (v, f) else vector[squares] - 1 - number
    return vector[triangles] + steps


def piece_with_arc(vector, t, v, f, at):
    """Return the piece that has the arc with a number of the corner v in the face f of t."""
    triangles, squares = arc_columns(t, v, f)
    if at < vector[triangles]:
        return (t, v, at)
    steps = at - vector[triangles]
    number = steps if 0 in (v, f) else vector[squares] - 1 - steps
    return (t, square_parting(v, f), number)


def neighbour_behind(gluing, vector, piece, v, f):
    """Return the piece that is joined to a piece at its arc of the corner v in the face f."""
    u, p = gluing[piece[0]][f]
    return piece_with_arc(vector, u, p[v], p[f], arc_number(vector, piece, v, f))


def neighbours_of(gluing, vector, piece):
    """Return the list of the pieces that are joined to a piece, by the faces of its arcs."""
    return [neighbour_behind(gluing, vector, piece, v, f) for v, f in arcs_of(piece[1])]


def turned_neighbours(gluing, vector, piece):
    """Return pairs of the neighbours, and of True if they must be turned like the piece."""
    t, kind, _ = piece
    found = []
    for v, f in arcs_of(kind):
        other = neighbour_behind(gluing, vector, piece, v, f)
        _, p = gluing[t][f]
        goes_alike = goes_evenly(kind, v, f) == goes_evenly(other[1], p[v], p[f])
        # An odd permutation takes even orders of corners to odd ones.
        found.append((other, goes_alike == has_odd_sign(p)))
    return found


def goes_evenly(kind, v, f):
    """Return True if one of the two turns of a piece goes evenly along an arc, otherwise False.

    An arc from the edge (v, a) to the edge (v, b) goes evenly if (v, f, a, b) is even. One of the
    turns of a triangle goes so along all of its arcs, one of a square along those without 0.
    """
    return kind not in SQUARES or 0 not in (v, f)
