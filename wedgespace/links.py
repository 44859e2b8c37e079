"""The links of the corners of a gluing, and whether the gluing is closed."""

from wedgespace.errors import BadNumber, NotClosed
from wedgespace.gluings import check_gluing, is_one_piece
from wedgespace.perms import has_odd_sign
from wedgespace.places import chosen_sides, classes_of
from wedgespace.skeleton import corner_classes_of, end_links, turned_edges_of


def link_numbers(gluing):
    """Return the list of the Euler numbers of the links, in the order of the corner classes."""
    check_gluing(gluing)
    return link_numbers_of(gluing)


def link_numbers_of(gluing):
    """Return the Euler numbers of the links of a gluing that was checked."""
    classes = corner_classes_of(gluing)
    class_at = {place: k for k, places in enumerate(classes) for place in places}
    vertices = [0 for _ in classes]
    for ends in classes_of(end_links(gluing)):
        t, i, _ = ends[0]
        vertices[class_at[(t, i)]] += 1
    # Each triangle has three sides, and each side is glued to another one.
    return [vertices[k] - 3 * len(places) // 2 + len(places) for k, places in enumerate(classes)]


def link_can_be_oriented(gluing, index):
    """Return True if the link of the corner class with an index can be oriented."""
    check_gluing(gluing)
    classes = corner_classes_of(gluing)
    if not 0 <= index < len(classes):
        raise BadNumber("there is no corner class with this index")
    # The sense of the triangle at i that agrees with the order of the corners of t is taken to
    # that sense of the next triangle exactly if the permutation of the entry is odd.
    links = {}
    for t, i in classes[index]:
        entries = [entry for f, entry in enumerate(gluing[t]) if f != i]
        links[(t, i)] = [((u, p[i]), has_odd_sign(p)) for u, p in entries]
    return chosen_sides(links, classes[index][0]) is not None


def is_closed(gluing):
    """Return True if the gluing is closed, otherwise False."""
    check_gluing(gluing)
    return is_closed_space(gluing)


def is_closed_space(gluing):
    """Return True if a gluing that was checked is closed."""
    if not is_one_piece(gluing) or turned_edges_of(gluing) != []:
        return False
    return all([number == 2 for number in link_numbers_of(gluing)])


def check_closed(gluing):
    """Raise NotGluing, or NotClosed if the gluing is not closed."""
    check_gluing(gluing)
    check_closed_space(gluing)


def check_closed_space(gluing):
    """Raise NotClosed if a gluing that was checked is not closed."""
    if not is_closed_space(gluing):
        raise NotClosed("the gluing is not closed")
