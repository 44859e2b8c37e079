"""The checker's own look at gluings: whether they are right and closed, and their cells.

It imports nothing but the errors. Corners, edges and ends are told by integers: the corner i of the
tetrahedron t by 4 t + i, its edge from the corner a to the corner b by 16 t + 4 a + b.
"""

from wedgespace.errors import NotClosed, NotGluing

MOST = 40
ENDS = ((0, 1), (0, 2), (0, 3), (1, 2), (1, 3), (2, 3))


def check_space(gluing):
    """Raise NotGluing or NotClosed if a tuple is not a closed gluing."""
    if not 1 <= len(gluing) <= MOST:
        raise NotGluing(0)
    for at in range(4 * len(gluing)):
        if not is_entry_right(gluing, at // 4, at % 4):
            raise NotGluing(at)
    if not is_space(gluing):
        raise NotClosed("the gluing is not closed")


def is_order(p):
    """Return True if a tuple of integers has each corner once."""
    return sorted(p) == [0, 1, 2, 3]


def is_entry_right(gluing, t, f):
    """Return True if the entry of a face is right."""
    u, p = gluing[t][f]
    if not 0 <= u < len(gluing) or not is_order(p) or (u, p[f]) == (t, f):
        return False
    back, q = gluing[u][p[f]]
    return back == t and is_order(q) and all([q[p[i]] == i for i in range(4)])


def is_space(gluing):
    """Return True if a right gluing is closed."""
    n = len(gluing)
    if any(least_ones(n, [(t, u) for t, row in enumerate(gluing) for u, _ in row])):
        return False
    ways = edge_labels(gluing)
    if any([ways[(t, a, b)] == ways[(t, b, a)] for t in range(n) for a, b in ENDS]):
        return False
    # No link has a greater Euler number than 2, and half of their sum is the number of the edge
    # classes minus n: so all of them are spheres exactly if there are as many corner classes.
    corners = set(corner_labels(gluing))
    ends = set(list(ways.values()))
    return len(corners) == len(ends) // 2 - n


def least_ones(count, pairs):
    """Return for each integer below a count the least one that pairs make one with it."""
    least = list(range(count))
    for one, other in pairs:
        a = root_of(least, one)
        b = root_of(least, other)
        least[max(a, b)] = min(a, b)
    return [root_of(least, k) for k in range(count)]


def root_of(least, k):
    """Return the integer to which a list leads from k on."""
    while least[k] != k:
        k = least[k]
    return k


def corner_labels(gluing):
    """Return the list of the least corners with which the corners are one."""
    pairs = []
    for t, row in enumerate(gluing):
        for f, (u, p) in enumerate(row):
            pairs.extend([(4 * t + i, 4 * u + p[i]) for i in range(4) if i != f])
    return least_ones(4 * len(gluing), pairs)


def edge_labels(gluing):
    """Return a dict with a label for each (t, a, b), the same for edges with directions made one."""
    pairs = []
    for t, row in enumerate(gluing):
        for f, (u, p) in enumerate(row):
            others = [i for i in range(4) if i != f]
            for a in others:
                steps = [(16 * t + 4 * a + b, 16 * u + 4 * p[a] + p[b]) for b in others if b != a]
                pairs.extend(steps)
    least = least_ones(16 * len(gluing), pairs)
    places = [(t, a, b) for t in range(len(gluing)) for a in range(4) for b in range(4) if a != b]
    return {(t, a, b): least[16 * t + 4 * a + b] for t, a, b in places}


def corner_cells(gluing):
    """Return a dict with the number of the corner class of each (t, i)."""
    labels = corner_labels(gluing)
    numbers = {label: k for k, label in enumerate(sorted(set(labels)))}
    return {(at // 4, at % 4): numbers[label] for at, label in enumerate(labels)}


def edge_cells(gluing):
    """Return a dict with a pair for each (t, a, b): its edge class, and the sign of its direction."""
    labels = edge_labels(gluing)
    pairs = {}
    count = 0
    for t in range(len(gluing)):
        for a, b in ENDS:
            if labels[(t, a, b)] not in pairs:
                pairs[labels[(t, a, b)]] = (count, 1)
                pairs[labels[(t, b, a)]] = (count, -1)
                count += 1
    return {place: pairs[label] for place, label in labels.items()}


def face_fronts(gluing):
    """Return the list of the lesser places of all pairs of glued faces, in ascending order."""
    places = [(t, f) for t in range(len(gluing)) for f in range(4)]
    return [(t, f) for t, f in places if (t, f) < (gluing[t][f][0], gluing[t][f][1][f])]
