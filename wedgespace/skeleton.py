"""The skeleton of a gluing: the classes of its corners and edges, and the walks around edges."""

from wedgespace.errors import BadNumber
from wedgespace.gluings import check_gluing
from wedgespace.places import classes_of, reached

# The corners of the edges, in the order of the indexes of the edges.
EDGES = ((0, 1), (0, 2), (0, 3), (1, 2), (1, 3), (2, 3))


def corner_classes(gluing):
    """Return the list of the corner classes, each a list of corner places."""
    check_gluing(gluing)
    return corner_classes_of(gluing)


def corner_classes_of(gluing):
    """Return the corner classes of a gluing that was checked."""
    links = {}
    for t, row in enumerate(gluing):
        for i in range(4):
            links[(t, i)] = [(u, p[i]) for f, (u, p) in enumerate(row) if f != i]
    return classes_of(links)


def edge_classes(gluing):
    """Return the list of the edge classes, each a list of edge places."""
    check_gluing(gluing)
    return edge_classes_of(gluing)


def edge_classes_of(gluing):
    """Return the edge classes of a gluing that was checked."""
    links = {}
    for t, row in enumerate(gluing):
        for e, (a, b) in enumerate(EDGES):
            sides = [entry for f, entry in enumerate(row) if f != a and f != b]
            links[(t, e)] = [(u, index_of_edge(p[a], p[b])) for u, p in sides]
    return classes_of(links)


def index_of_edge(a, b):
    """Return the index of the edge with two different corners."""
    return EDGES.index((min(a, b), max(a, b)))


def corners_without(left_out):
    """Return the ascending list of the corners other than those of a list."""
    return [i for i in range(4) if i not in left_out]


def end_links(gluing):
    """Return the table of links of the end places of a gluing that was checked.

    An end place (t, a, b) is also the edge of t with the corners a and b, going from a to b:
    the gluings that make two ends one make two edges with their directions one.
    """
    links = {}
    corners = [(a, b) for a in range(4) for b in range(4) if a != b]
    for t, row in enumerate(gluing):
        for a, b in corners:
            sides = [entry for f, entry in enumerate(row) if f != a and f != b]
            links[(t, a, b)] = [(u, p[a], p[b]) for u, p in sides]
    return links


def turned_edges(gluing):
    """Return the ascending list of the indexes of the edge classes that are turned."""
    check_gluing(gluing)
    return turned_edges_of(gluing)


def turned_edges_of(gluing):
    """Return the indexes of the turned edge classes of a gluing that was checked."""
    return [k for k, signs in enumerate(edge_signs_of(gluing)) if signs is None]


def edge_signs(gluing):
    """Return for each edge class the list of the signs of its places, or None if it is turned."""
    check_gluing(gluing)
    return edge_signs_of(gluing)


def edge_signs_of(gluing):
    """Return the signs of the edge classes of a gluing that was checked."""
    links = end_links(gluing)
    return [signs_of_class(links, places) for places in edge_classes_of(gluing)]


def signs_of_class(links, places):
    """Return the signs of the places of an edge class, or None if it is turned."""
    t, e = places[0]
    a, b = EDGES[e]
    along = {place: True for place in reached(links, (t, a, b))}
    if (t, b, a) in along:
        return None
    return [1 if (u, *EDGES[x]) in along else -1 for u, x in places]


def degrees(gluing):
    """Return the list of the degrees of the edge classes."""
    return [len(places) for places in edge_classes(gluing)]


def edge_index(a, b):
    """Return the index of the edge with two different corners, in either order."""
    if not are_different_corners([a, b]):
        raise BadNumber("an edge has two different corners from 0 to 3")
    return index_of_edge(a, b)


def are_different_corners(numbers):
    """Return True if all integers of a list are corners, and no two of them are the same."""
    return len(set(numbers)) == len(numbers) and all([0 <= i < 4 for i in numbers])


def around(gluing, t, a, b, c):
    """Return the walk around the edge of t with the corners a and b, first through the face c."""
    check_gluing(gluing)
    if not 0 <= t < len(gluing) or not are_different_corners([a, b, c]):
        raise BadNumber("a walk begins at a tetrahedron and at three different corners of it")
    return walk_around(gluing, t, a, b, c)


def walk_around(gluing, t, a, b, c):
    """Return the walk around an edge, for arguments that were checked."""
    walk = [(t, a, b, c)]
    place = place_behind(gluing, (t, a, b, c))
    while place != walk[0]:
        walk.append(place)
        place = place_behind(gluing, place)
    return walk


def place_behind(gluing, place):
    """Return the next place of a walk around an edge."""
    t, a, b, c = place
    u, p = gluing[t][c]
    return (u, p[a], p[b], p[6 - a - b - c])


def euler_number(gluing):
    """Return the Euler number of a gluing."""
    check_gluing(gluing)
    # There are 2 n faces and n tetrahedra.
    return len(corner_classes_of(gluing)) - len(edge_classes_of(gluing)) + len(gluing)
