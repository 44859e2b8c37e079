"""The checker's own count of the images of a gluing of a few tetrahedra.

An image gives each place (t, f) an order of the numbers below the degree: where they go when the
face is crossed there.
"""

from wedgespace.checker_spaces import ENDS, edge_cells, face_fronts


def count_images(gluing, degree):
    """Return the number of the images of a degree that satisfy the group of a closed gluing."""
    fronts = face_fronts(gluing)
    tree = tree_of(gluing, fronts)
    free = [front for front in fronts if front not in tree]
    circles = circles_of(gluing)
    same = tuple(range(degree))
    count = 0
    for images in tuples_of(orders_below(degree), len(free)):
        crossings = {}
        for (t, f), image in list(zip(free, images)) + [(front, same) for front in tree]:
            u, p = gluing[t][f]
            crossings[(t, f)] = image
            crossings[(u, p[f])] = tuple([image.index(s) for s in same])
        if all([is_still(circle, crossings, same) for circle in circles]):
            count += 1
    return count


def tree_of(gluing, fronts):
    """Return the list of fronts of pairs of faces that join all tetrahedra without a circle."""
    joined = {0: True}
    tree = []
    while len(joined) < len(gluing):
        for t, f in fronts:
            u, _ = gluing[t][f]
            if (t in joined) != (u in joined):
                tree.append((t, f))
                joined[t] = True
                joined[u] = True
    return tree


def circles_of(gluing):
    """Return the list of the circles around the edge classes, each a list of places (t, f)."""
    circles = []
    met = {}
    for (t, a, b), (k, _) in edge_cells(gluing).items():
        if (a, b) in ENDS and k not in met:
            met[k] = True
            circles.append(circle_at(gluing, t, a, b))
    return circles


def circle_at(gluing, t, a, b):
    """Return the places (t, f) of the faces through which one goes around an edge."""
    face, last = [i for i in range(4) if i not in (a, b)]
    start = (t, a, b, face)
    here = start
    circle = []
    while circle == [] or here != start:
        circle.append((t, face))
        t, p = gluing[t][face]
        a, b, face, last = p[a], p[b], p[last], p[face]
        here = (t, a, b, face)
    return circle


def is_still(circle, crossings, same):
    """Return True if each number comes back to itself around a circle."""
    numbers = same
    for place in circle:
        image = crossings[place]
        numbers = tuple([image[s] for s in numbers])
    return numbers == same


def orders_below(degree):
    """Return the list of all orders of the numbers below a degree."""
    orders = [()]
    for _ in range(degree):
        orders = [(*order, s) for order in orders for s in range(degree) if s not in order]
    return orders


def tuples_of(orders, count):
    """Return the list of all tuples of so many orders."""
    tuples = [()]
    for _ in range(count):
        tuples = [(*images, order) for images in tuples for order in orders]
    return tuples
