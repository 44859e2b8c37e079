"""Surfaces of triangles and squares in closed gluings, told by vectors."""

from wedgespace.errors import BadNumber, NotVector, TooLarge
from wedgespace.links import check_closed
from wedgespace.matching import (
    KINDS, SQUARES, common_divisor, conditions_of, least_solutions, rank_among, square_parting,
    total_at)
from wedgespace.skeleton import EDGES, corner_classes_of, edge_classes_of

GREATEST_ENTRY = 1000
MOST_FOR_SIMPLE = 2


def fits(gluing, vector):
    """Return True if a vector fits, otherwise False."""
    check_surface(gluing, vector)
    return fits_at_faces(gluing, vector)


def is_allowed(gluing, vector):
    """Return True if a vector is allowed, otherwise False."""
    check_surface(gluing, vector)
    return is_allowed_vector(gluing, vector)


def weights(gluing, vector):
    """Return the list of the weights of the edge classes of an allowed vector."""
    check_closed(gluing)
    check_allowed(gluing, vector)
    return weights_of(gluing, vector)


def euler(gluing, vector):
    """Return the Euler number of an allowed vector."""
    check_closed(gluing)
    check_allowed(gluing, vector)
    # A triangle has three arcs and a square has four.
    arcs = sum([arcs_of_kind(at) * count for at, count in enumerate(vector)])
    return sum(weights_of(gluing, vector)) - arcs // 2 + sum(vector)


def agree(gluing, one, other):
    """Return True if two allowed vectors agree, otherwise False."""
    check_closed(gluing)
    check_allowed(gluing, one)
    check_allowed(gluing, other)
    return has_one_kind_of_squares([entry + more for entry, more in zip(one, other)])


def link_vector(gluing, corner_class):
    """Return the link of a corner class as a vector."""
    check_closed(gluing)
    classes = corner_classes_of(gluing)
    if not 0 <= corner_class < len(classes):
        raise BadNumber("there is no corner class with this index")
    vector = [0 for _ in range(KINDS * len(gluing))]
    for t, v in classes[corner_class]:
        vector[KINDS * t + v] = 1
    return vector


def is_simple(gluing, vector):
    """Return True if an allowed vector is simple, otherwise False."""
    check_closed(gluing)
    check_allowed(gluing, vector)
    # The vector of zeros has the divisor 0.
    if common_divisor(vector) != 1:
        return False
    columns = [at for at, count in enumerate(vector) if count != 0]
    return rank_among(conditions_of(gluing), columns) == len(columns) - 1


def simple_vectors(gluing):
    """Return the ascending list of all simple vectors of a gluing of one or two tetrahedra."""
    check_closed(gluing)
    if len(gluing) > MOST_FOR_SIMPLE:
        raise TooLarge("the gluing has more than 2 tetrahedra")
    conditions = conditions_of(gluing)
    size = KINDS * len(gluing)
    found = {}
    for columns in columns_with_squares(len(gluing)):
        for vector in least_solutions(conditions, size, columns):
            found[vector] = True
    return [list(vector) for vector in sorted(found)]


def columns_with_squares(n):
    """Return the lists of columns that have all triangles and one kind of squares in each tetrahedron."""
    lists = [[]]
    for t in range(n):
        triangles = [KINDS * t + v for v in range(4)]
        lists = [[*columns, *triangles, KINDS * t + kind] for columns in lists for kind in SQUARES]
    return lists


def check_surface(gluing, vector):
    """Raise NotGluing, NotClosed, or NotVector if a list is not a vector for the gluing."""
    check_closed(gluing)
    check_entries(gluing, vector)


def check_entries(gluing, vector):
    """Raise NotVector if a list is not a vector for a gluing."""
    if len(vector) != KINDS * len(gluing):
        raise NotVector("a vector has seven entries for each tetrahedron")
    if not all([0 <= entry <= GREATEST_ENTRY for entry in vector]):
        raise NotVector("the entries of a vector are from 0 to 1000")


def check_allowed(gluing, vector):
    """Raise NotVector if a list is not an allowed vector for a closed gluing."""
    check_entries(gluing, vector)
    if not is_allowed_vector(gluing, vector):
        raise NotVector("a vector is not allowed")


# The functions below take closed gluings and vectors for them.


def fits_at_faces(gluing, vector):
    """Return True if a vector fits."""
    return all([total_at(condition, vector) == 0 for condition in conditions_of(gluing)])


def is_allowed_vector(gluing, vector):
    """Return True if a vector is allowed."""
    return has_one_kind_of_squares(vector) and fits_at_faces(gluing, vector)


def has_one_kind_of_squares(vector):
    """Return True if at most one of the numbers of squares in each tetrahedron is not 0."""
    for first in range(0, len(vector), KINDS):
        if len([kind for kind in SQUARES if vector[first + kind] != 0]) > 1:
            return False
    return True


def arcs_of_kind(at):
    """Return the number of the arcs of each piece that is counted in a column."""
    return 4 if at % KINDS in SQUARES else 3


def weights_of(gluing, vector):
    """Return the list of the weights of the edge classes of a vector that fits."""
    first_places = [places[0] for places in edge_classes_of(gluing)]
    return [weight_at(vector, t, e) for t, e in first_places]


def weight_at(vector, t, e):
    """Return the weight of an edge place."""
    a, b = EDGES[e]
    counts = vector[KINDS * t:KINDS * (t + 1)]
    parting = [kind for kind in SQUARES if kind != square_parting(a, b)]
    return counts[a] + counts[b] + sum([counts[kind] for kind in parting])
