"""What the lines of a desk do with gluings and integers: new gluings, and texts of answers."""

from wedgespace.covers import cover_numbers
from wedgespace.decide import decide, shows
from wedgespace.forms import renamings, standard_form, symmetries
from wedgespace.gluings import is_joined, mirror, sides, union
from wedgespace.groups import group_of
from wedgespace.homology import homology
from wedgespace.links import is_closed, link_numbers
from wedgespace.moves import made, moves_of
from wedgespace.rings import axis_of, ring
from wedgespace.skeleton import corner_classes, degrees
from wedgespace.surfaces import simple_vectors
from wedgespace.texts import read_gluing, text_of


def gluing_made(command, words, things):
    """Return the gluing that a command puts under a name.

    `words` are the words behind the name, and `things` the gluings and integers that they tell.
    """
    if command == "gluing":
        return read_gluing(" ".join(words))
    if command == "ring":
        return ring(*things)
    if command == "mirror":
        return mirror(*things)
    if command == "form":
        return standard_form(*things)
    if command == "union":
        return union(*things)
    gluing, *numbers = things
    return made(gluing, (command, *numbers))


def text_shown(gluing):
    """Return the text of a gluing."""
    return text_of(gluing)


def listed(numbers):
    """Return the text of a list of integers."""
    if numbers == []:
        return "empty"
    return " ".join([str(number) for number in numbers])


def said(is_so):
    """Return the text of True or False."""
    return "yes" if is_so else "no"


def size_text(gluing):
    """Return the number of the tetrahedra."""
    return listed([len(gluing)])


def corners_text(gluing):
    """Return the number of the corner classes."""
    return listed([len(corner_classes(gluing))])


def degrees_text(gluing):
    """Return the degrees of the edge classes."""
    return listed(degrees(gluing))


def links_text(gluing):
    """Return the Euler numbers of the links."""
    return listed(link_numbers(gluing))


def joined_text(gluing):
    """Return whether a gluing is joined."""
    return said(is_joined(gluing))


def closed_text(gluing):
    """Return whether a gluing is closed."""
    return said(is_closed(gluing))


def turns_text(gluing):
    """Return whether a joined gluing can be oriented."""
    return said(sides(gluing) is not None)


def symmetries_text(gluing):
    """Return the number of the symmetries."""
    return listed([len(symmetries(gluing))])


def moves_text(gluing):
    """Return the number of all moves."""
    return listed([len(moves_of(gluing))])


def homology_text(gluing, dimension):
    """Return the rank and the divisors of a homology."""
    rank, divisors = homology(gluing, dimension)
    return listed([rank, *divisors])


def group_text(gluing):
    """Return the numbers of the generators and of the relators."""
    count, relators = group_of(gluing)
    return listed([count, len(relators)])


def covers_text(gluing, degree):
    """Return the three numbers of the covers of a degree."""
    return listed(list(cover_numbers(gluing, degree)))


def axis_text(gluing, t, e):
    """Return the tetrahedra around an edge."""
    return listed(axis_of(gluing, t, e))


def surfaces_text(gluing):
    """Return the number of the simple vectors."""
    return listed([len(simple_vectors(gluing))])


def alike_text(one, other):
    """Return whether a renaming takes one gluing to another one."""
    return said(renamings(one, other) != [])


def decide_text(one, other):
    """Return what the answer for two gluings shows, and its kind."""
    answer = decide(one, other)
    return f"{shows(answer)} {answer[0]}"


ANSWERS = {
    "show": text_shown, "size": size_text, "corners": corners_text, "degrees": degrees_text,
    "links": links_text, "isjoined": joined_text, "isclosed": closed_text, "turns": turns_text,
    "symmetries": symmetries_text, "moves": moves_text, "homology": homology_text,
    "group": group_text, "covers": covers_text, "axis": axis_text, "surfaces": surfaces_text,
    "alike": alike_text, "decide": decide_text,
}


def text_answered(command, things):
    """Return the text that a command answers for gluings and integers."""
    action = ANSWERS[command]
    return action(*things)
