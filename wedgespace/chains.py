"""The cells of a closed gluing, their borders, and the signs of its tetrahedra."""

from wedgespace.errors import BadNumber
from wedgespace.gluings import sides_of
from wedgespace.groups import loop_of
from wedgespace.links import check_closed
from wedgespace.matrices import check_vector, vector_product
from wedgespace.paths import face_pairs, places_of_path
from wedgespace.perms import has_odd_sign
from wedgespace.skeleton import (
    EDGES, corner_classes_of, corners_without, edge_classes_of, edge_signs_of, index_of_edge)

GREATEST_DIMENSION = 3


def cell_counts(gluing):
    """Return the list of the numbers of cells of the dimensions 0 to 3."""
    check_closed(gluing)
    return counts_of_cells(gluing)


def border_matrix(gluing, dimension):
    """Return the border matrix of a dimension from 1 to 3."""
    check_closed(gluing)
    if not 1 <= dimension <= GREATEST_DIMENSION:
        raise BadNumber("a border matrix has a dimension from 1 to 3")
    return border_rows(gluing, dimension)


def border(gluing, dimension, chain):
    """Return the border of a chain; the empty list for the dimension 0."""
    check_closed(gluing)
    check_dimension(dimension)
    check_vector(chain, counts_of_cells(gluing)[dimension])
    return border_of_chain(gluing, dimension, chain)


def side_signs(gluing):
    """Return the list of signs of the tetrahedra that begins with 1, or None."""
    check_closed(gluing)
    odd = sides_of(gluing)
    if odd is None:
        return None
    return [-1 if is_odd_side else 1 for is_odd_side in odd]


def turning_circle(gluing):
    """Return a turning circle, or None."""
    check_closed(gluing)
    # The loops of the generators are enough: signs that fit along the tree fit everywhere if they
    # fit at each generator.
    for k in range(len(gluing) + 1):
        places = places_of_path(gluing, loop_of(gluing, k))
        if is_turning(gluing, places):
            return places
    return None


def check_dimension(dimension):
    """Raise BadNumber if there are no cells of a dimension."""
    if not 0 <= dimension <= GREATEST_DIMENSION:
        raise BadNumber("a dimension is from 0 to 3")


# The functions below take closed gluings.


def counts_of_cells(gluing):
    """Return the list of the numbers of cells of the dimensions 0 to 3."""
    n = len(gluing)
    return [len(corner_classes_of(gluing)), len(edge_classes_of(gluing)), 2 * n, n]


def border_of_chain(gluing, dimension, chain):
    """Return the border of a chain."""
    if dimension == 0:
        return []
    columns = counts_of_cells(gluing)[dimension - 1]
    return vector_product(chain, border_rows(gluing, dimension), columns)


def border_rows(gluing, dimension):
    """Return the rows of a border matrix."""
    if dimension == 1:
        return edge_borders(gluing)
    if dimension == 2:
        return face_borders(gluing)
    return tetrahedron_borders(gluing)


def edge_borders(gluing):
    """Return the border matrix of dimension 1."""
    classes = corner_classes_of(gluing)
    cells = {place: k for k, places in enumerate(classes) for place in places}
    rows = []
    for places in edge_classes_of(gluing):
        t, e = places[0]
        a, b = EDGES[e]
        rows.append(row_with(len(classes), [(cells[(t, b)], 1), (cells[(t, a)], -1)]))
    return rows


def face_borders(gluing):
    """Return the border matrix of dimension 2."""
    classes = edge_classes_of(gluing)
    cells = {}
    for k, signs in enumerate(edge_signs_of(gluing)):
        for place, sign in zip(classes[k], signs):
            cells[place] = (k, sign)
    rows = []
    for t, f, _, _ in face_pairs(gluing):
        a, b, c = corners_without([f])
        terms = []
        for i, j, factor in ((b, c, 1), (a, c, -1), (a, b, 1)):
            k, sign = cells[(t, index_of_edge(i, j))]
            terms.append((k, factor * sign))
        rows.append(row_with(len(classes), terms))
    return rows


def tetrahedron_borders(gluing):
    """Return the border matrix of dimension 3."""
    pairs = face_pairs(gluing)
    rows = [row_with(len(pairs), []) for _ in gluing]
    for k, (t, f, u, g) in enumerate(pairs):
        rows[t][k] += face_factor(f)
        _, p = gluing[u][g]
        is_odd_order = has_odd_sign([p[i] for i in corners_without([g])])
        rows[u][k] += -face_factor(g) if is_odd_order else face_factor(g)
    return rows


def face_factor(f):
    """Return the factor of a face in the border of its tetrahedron."""
    return 1 if f in (0, 2) else -1


def row_with(size, terms):
    """Return the row of a border: the terms are pairs of a cell and a factor, which add up."""
    row = [0 for _ in range(size)]
    for k, factor in terms:
        row[k] += factor
    return row


def is_turning(gluing, places):
    """Return True if the product of the numbers -s of the entries of places is -1."""
    even = [(t, f) for t, f in places if not has_odd_sign(gluing[t][f][1])]
    return len(even) % 2 == 1
