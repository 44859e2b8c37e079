"""Deciding whether moves connect two closed gluings, with a certificate for the answer."""

from wedgespace.chains import border_rows, counts_of_cells, is_turning, side_signs, turning_circle
from wedgespace.diagonal import divisors_on, is_diagonal_form
from wedgespace.errors import TooLarge
from wedgespace.forms import some_renaming
from wedgespace.groups import group_of
from wedgespace.homology import homology_forms
from wedgespace.images import all_images
from wedgespace.links import check_closed
from wedgespace.perms import has_odd_sign
from wedgespace.walk import GREATEST_MOST, find_way
from wedgespace.ways import leads_to

MOST_TO_DECIDE = 8
MOST_WITH_COVERS = 3
DEGREES = (2, 3)

# What the kinds of answers show.
SHOWN = {"same": "same", "homology": "other", "sides": "other", "covers": "other", "open": "open"}


def decide(one, other):
    """Return an answer for two gluings."""
    check_both(one, other)
    renaming = some_renaming(one, other)
    if renaming is not None:
        return ("same", ((), renaming))
    answer = answer_by_sides(one, other)
    if answer is None:
        answer = answer_by_homology(one, other)
    if answer is None:
        answer = answer_by_covers(one, other)
    if answer is None:
        answer = answer_by_search(one, other)
    return answer


def is_answer(one, other, answer):
    """Return True if a tuple is an answer for two gluings, otherwise False."""
    check_both(one, other)
    kind = answer[0]
    if kind == "same":
        return leads_to(one, other, answer[1])
    if kind == "homology":
        return are_forms_apart(one, other, answer[1], answer[2])
    if kind == "sides":
        return are_sides_apart(one, other, answer[1], answer[2])
    if kind == "covers":
        return answer[1] in DEGREES and are_covers_apart(one, other, answer[1])
    return True


def shows(answer):
    """Return what the kind of an answer shows: "same", "other" or "open"."""
    return SHOWN[answer[0]]


def told_homology(forms, counts):
    """Return the homologies of the dimensions 0 to 3 that three diagonal forms tell.

    `counts` are the numbers of cells of the gluing.
    """
    told = [divisors_on(diagonal, count) for (_, _, diagonal, _, _), count in zip(forms, counts)]
    # The border matrices of the dimensions 0 and 4 have no divisors.
    homologies = []
    for count, below, above in zip(counts, [[], *told], [*told, []]):
        divisors = [entry for entry in above if entry > 1]
        homologies.append((count - len(below) - len(above), divisors))
    return homologies


def check_both(one, other):
    """Raise NotGluing, NotClosed or TooLarge for one of two gluings."""
    check_closed(one)
    check_closed(other)
    if max(len(one), len(other)) > MOST_TO_DECIDE:
        raise TooLarge("a gluing has more than 8 tetrahedra")


# The functions below take closed gluings.


def answer_by_sides(one, other):
    """Return an answer if one of the gluings has sides and the other one has none, or None."""
    signs = side_signs(one)
    other_signs = side_signs(other)
    if signs is not None and other_signs is None:
        return ("sides", signs, turning_circle(other))
    if signs is None and other_signs is not None:
        return ("sides", other_signs, turning_circle(one))
    return None


def answer_by_homology(one, other):
    """Return an answer if a homology differs, or None."""
    forms = homology_forms(one)
    others = homology_forms(other)
    if homology_of(one, forms) == homology_of(other, others):
        return None
    return ("homology", forms, others)


def answer_by_covers(one, other):
    """Return an answer if the numbers of images of a degree differ, or None."""
    for degree in DEGREES:
        if are_covers_apart(one, other, degree):
            return ("covers", degree)
    return None


def answer_by_search(one, other):
    """Return an answer with a way if one is found, otherwise the open answer."""
    most = min(max(len(one), len(other)) + 1, GREATEST_MOST)
    way = find_way(one, other, most=most)
    return ("open",) if way is None else ("same", way)


def homology_of(gluing, forms):
    """Return the homologies that the diagonal forms of a gluing tell."""
    return told_homology(forms, counts_of_cells(gluing))


def are_forms_apart(one, other, forms, others):
    """Return True if diagonal forms are those of two gluings and tell that a homology differs."""
    if not are_forms_of(one, forms) or not are_forms_of(other, others):
        return False
    return homology_of(one, forms) != homology_of(other, others)


def are_forms_of(gluing, forms):
    """Return True if three tuples are diagonal forms of the border matrices of a gluing."""
    counts = counts_of_cells(gluing)
    told = [is_diagonal_form(border_rows(gluing, k + 1), counts[k], form) for k, form in enumerate(forms)]
    return all(told)


def are_sides_apart(one, other, signs, circle):
    """Return True if one of the gluings has these signs and the other one this turning circle."""
    if are_signs_of(one, signs) and is_circle_of(other, circle):
        return True
    return are_signs_of(other, signs) and is_circle_of(one, circle)


def are_signs_of(gluing, signs):
    """Return True if the tetrahedra of a gluing can have the signs of a list."""
    if len(signs) != len(gluing) or any([sign not in (1, -1) for sign in signs]):
        return False
    for t, row in enumerate(gluing):
        for u, p in row:
            # Odd entries join equal signs, even ones different signs.
            if (signs[t] == signs[u]) != has_odd_sign(p):
                return False
    return True


def is_circle_of(gluing, circle):
    """Return True if a list of pairs is a turning circle of a gluing."""
    if circle == [] or any([not 0 <= t < len(gluing) or not 0 <= f < 4 for t, f in circle]):
        return False
    behind = [gluing[t][f][0] for t, f in circle]
    following = [t for t, _ in circle[1:] + circle[:1]]
    return behind == following and is_turning(gluing, circle)


def are_covers_apart(one, other, degree):
    """Return True if the numbers of images of a degree of two small gluings differ."""
    if max(len(one), len(other)) > MOST_WITH_COVERS:
        return False
    return count_of_images(one, degree) != count_of_images(other, degree)


def count_of_images(gluing, degree):
    """Return the number of images of a degree that satisfy the group of a gluing."""
    group = group_of(gluing)
    return sum([1 for _ in all_images(group, degree)])
