"""Gluings by their numbers, closed ones among them, and the census of one tetrahedron.

The choices of a pairing and then the turns of its pairs are the digits of the number of a gluing.
Each digit has a base of its own: the number of its possibilities.
"""

from itertools import permutations

from wedgespace.errors import BadNumber
from wedgespace.forms import standard_form
from wedgespace.gluings import check_gluing
from wedgespace.links import is_closed_space
from wedgespace.paths import face_pairs
from wedgespace.perms import inverse_of, taking
from wedgespace.skeleton import corners_without

MOST_NUMBERED = 6
MOST_TRIES = 2000
TURNS = 6


def count_gluings(tetrahedra):
    """Return the number of all gluings of so many tetrahedra."""
    check_tetrahedra(tetrahedra)
    return count_with(bases_of(tetrahedra))


def gluing_at(tetrahedra, number):
    """Return the gluing with a number."""
    check_tetrahedra(tetrahedra)
    if not 0 <= number < count_with(bases_of(tetrahedra)):
        raise BadNumber("there is no gluing with this number")
    return gluing_numbered(tetrahedra, number)


def next_closed(tetrahedra, number, *, tries=200):
    """Return the pair of the number of the next closed gluing and this gluing, or None."""
    check_tetrahedra(tetrahedra)
    if number < 0:
        raise BadNumber("a number is not negative")
    if not 1 <= tries <= MOST_TRIES:
        raise BadNumber("the tries are from 1 to 2000")
    for at in range(number, min(number + tries, count_with(bases_of(tetrahedra)))):
        gluing = gluing_numbered(tetrahedra, at)
        if is_closed_space(gluing):
            return (at, gluing)
    return None


def number_of(gluing):
    """Return the number of a gluing."""
    check_gluing(gluing)
    check_tetrahedra(len(gluing))
    pairs = face_pairs(gluing)
    turns = [turn_of(gluing, t, f) for t, f, _, _ in pairs]
    return number_with(choices_of(len(gluing), pairs) + turns, bases_of(len(gluing)))


def census():
    """Return the ascending list of the standard forms of the closed gluings of one tetrahedron."""
    told = [gluing_numbered(1, number) for number in range(count_gluings(1))]
    return sorted(set([standard_form(gluing) for gluing in told if is_closed_space(gluing)]))


def check_tetrahedra(tetrahedra):
    """Raise BadNumber if gluings of so many tetrahedra are not numbered."""
    if not 1 <= tetrahedra <= MOST_NUMBERED:
        raise BadNumber("gluings of 1 to 6 tetrahedra are numbered")


def bases_of(tetrahedra):
    """Return the bases of the digits of a number: those of the choices, then those of the turns."""
    pairs = 2 * tetrahedra
    return [2 * left - 1 for left in range(pairs, 0, -1)] + [TURNS for _ in range(pairs)]


def count_with(bases):
    """Return how many numbers there are with digits of these bases."""
    count = 1
    for base in bases:
        count *= base
    return count


def number_with(digits, bases):
    """Return the number with digits of these bases."""
    number = 0
    for digit, base in zip(digits, bases):
        number = number * base + digit
    return number


def digits_of(number, bases):
    """Return the digits of a number with these bases."""
    digits = []
    for base in reversed(bases):
        number, digit = divmod(number, base)
        digits.append(digit)
    return digits[::-1]


def faces_of(tetrahedra):
    """Return the ascending list of all faces."""
    return [(t, f) for t in range(tetrahedra) for f in range(4)]


def gluing_numbered(tetrahedra, number):
    """Return the gluing with a number that there is."""
    digits = digits_of(number, bases_of(tetrahedra))
    pairs = 2 * tetrahedra
    rows = [[None, None, None, None] for _ in range(tetrahedra)]
    for (t, f, u, g), turn in zip(pairing_of(tetrahedra, digits[:pairs]), digits[pairs:]):
        p = turned(f, g, turn)
        rows[t][f] = (u, p)
        rows[u][g] = (t, inverse_of(p))
    return tuple([tuple(row) for row in rows])


def pairing_of(tetrahedra, choices):
    """Return the pairing with the told choices, as tuples (t, f, u, g)."""
    left = faces_of(tetrahedra)
    pairs = []
    for choice in choices:
        first = left[0]
        partner = left[choice + 1]
        pairs.append((*first, *partner))
        left = [face for face in left if face not in (first, partner)]
    return pairs


def choices_of(tetrahedra, pairs):
    """Return the list of the choices of a pairing."""
    left = faces_of(tetrahedra)
    choices = []
    for t, f, u, g in pairs:
        choices.append(left.index((u, g)) - 1)
        left = [face for face in left if face not in ((t, f), (u, g))]
    return choices


def orders_beside(g):
    """Return the ascending list of the orders of the corners other than one."""
    corners = corners_without([g])
    return list(permutations(corners))


def turned(f, g, turn):
    """Return the permutation with a turn that glues a face f to a face g."""
    corners = corners_without([f])
    images = orders_beside(g)[turn]
    return taking((*corners, f), (*images, g))


def turn_of(gluing, t, f):
    """Return the turn of the entry of a face."""
    _, p = gluing[t][f]
    return orders_beside(p[f]).index(tuple([p[i] for i in corners_without([f])]))
