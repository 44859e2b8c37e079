"""Paths through glued faces: the pairs of faces, the tree, the generators, and words of paths.

A path is a tuple (start, faces) of a tetrahedron and of the faces through which it goes.
"""

from wedgespace.errors import BadNumber
from wedgespace.gluings import check_gluing, check_joined
from wedgespace.links import check_closed_space
from wedgespace.skeleton import EDGES, corners_without, walk_around


def pairs_of(gluing):
    """Return the list of the pairs of glued faces, as tuples (t, f, u, g) of front and back."""
    check_one_piece(gluing)
    return face_pairs(gluing)


def tree_pairs(gluing):
    """Return the ascending list of the numbers of the pairs of the tree."""
    check_one_piece(gluing)
    return tree_numbers(gluing)


def generators_of(gluing):
    """Return the list of the numbers of the pairs that are the generators."""
    check_one_piece(gluing)
    return generator_numbers(gluing)


def path_end(gluing, path):
    """Return the tetrahedron where a path ends."""
    check_one_piece(gluing)
    check_path(gluing, path)
    return end_of_path(gluing, path)


def path_word(gluing, path):
    """Return the word of a path."""
    check_one_piece(gluing)
    check_path(gluing, path)
    return word_through(gluing, path, letters_of_faces(gluing))


def backwards(gluing, path):
    """Return the path that goes back."""
    check_one_piece(gluing)
    check_path(gluing, path)
    return path_back(gluing, path)


def branch(gluing, t):
    """Return the branch of a tetrahedron."""
    check_one_piece(gluing)
    if not 0 <= t < len(gluing):
        raise BadNumber("there is no such tetrahedron")
    return branch_to(gluing, t)


def circle(gluing, t, e):
    """Return the circle of an edge place of a closed gluing."""
    check_one_piece(gluing)
    check_closed_space(gluing)
    if not 0 <= t < len(gluing) or not 0 <= e < len(EDGES):
        raise BadNumber("there is no such edge place")
    return circle_around(gluing, t, e)


def check_one_piece(gluing):
    """Raise NotGluing, or NotJoined if a gluing has several pieces."""
    check_gluing(gluing)
    check_joined(gluing)


def check_path(gluing, path):
    """Raise BadNumber if a path begins at no tetrahedron, or a face of it is none."""
    start, faces = path
    if not 0 <= start < len(gluing) or not all([0 <= f < 4 for f in faces]):
        raise BadNumber("a path goes from a tetrahedron through faces from 0 to 3")


# The functions below take joined gluings, and paths of them.


def face_pairs(gluing):
    """Return the list of the pairs of glued faces."""
    places = [(t, f, u, p[f]) for t, row in enumerate(gluing) for f, (u, p) in enumerate(row)]
    return [(t, f, u, g) for t, f, u, g in places if (t, f) < (u, g)]


def tree_arrivals(gluing):
    """Return a dict that has for each tetrahedron the place (t, f) from which the tree comes to it.

    The tetrahedron 0, where the tree begins, has None.
    """
    arrivals = {0: None}
    queue = [0]
    at = 0
    while at < len(queue):
        t = queue[at]
        for f, (u, _) in enumerate(gluing[t]):
            if u not in arrivals:
                arrivals[u] = (t, f)
                queue.append(u)
        at += 1
    return arrivals


def tree_numbers(gluing):
    """Return the ascending list of the numbers of the pairs of the tree."""
    crossed = list(tree_arrivals(gluing).values())
    pairs = face_pairs(gluing)
    return [k for k, (t, f, u, g) in enumerate(pairs) if (t, f) in crossed or (u, g) in crossed]


def generator_numbers(gluing):
    """Return the list of the numbers of the pairs that are the generators."""
    tree = tree_numbers(gluing)
    return [k for k in range(2 * len(gluing)) if k not in tree]


def letters_of_faces(gluing):
    """Return a dict that has for each place (t, f) the letter of its pair when crossed from there.

    The letter of a pair of the tree is 0.
    """
    pairs = face_pairs(gluing)
    letters = {(t, f): 0 for t in range(len(gluing)) for f in range(4)}
    for k, number in enumerate(generator_numbers(gluing)):
        t, f, u, g = pairs[number]
        letters[(t, f)] = k + 1
        letters[(u, g)] = -(k + 1)
    return letters


def places_of_path(gluing, path):
    """Return the list of the places (t, f) through which a path goes."""
    t, faces = path
    places = []
    for f in faces:
        places.append((t, f))
        t, _ = gluing[t][f]
    return places


def end_of_path(gluing, path):
    """Return the tetrahedron where a path ends."""
    t, faces = path
    for f in faces:
        t, _ = gluing[t][f]
    return t


def word_through(gluing, path, letters):
    """Return the word of a path; `letters` has the letters of all faces."""
    crossed = [letters[place] for place in places_of_path(gluing, path)]
    return tuple([letter for letter in crossed if letter != 0])


def path_back(gluing, path):
    """Return the path that goes back."""
    places = places_of_path(gluing, path)
    faces = [gluing[t][f][1][f] for t, f in reversed(places)]
    return (end_of_path(gluing, path), tuple(faces))


def branch_to(gluing, t):
    """Return the branch of a tetrahedron."""
    arrivals = tree_arrivals(gluing)
    faces = []
    while arrivals[t] is not None:
        t, f = arrivals[t]
        faces.append(f)
    return (0, tuple(reversed(faces)))


def circle_around(gluing, t, e):
    """Return the circle of an edge place of a closed gluing."""
    a, b = EDGES[e]
    c, _ = corners_without([a, b])
    return (t, tuple([face for _, _, _, face in walk_around(gluing, t, a, b, c)]))
