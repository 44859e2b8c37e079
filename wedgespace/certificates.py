"""The checker: whether certificates show what they claim.

Its modules import the errors and each other alone, so that nothing else need be trusted.
"""

from wedgespace.checker_forms import (
    borders_of, cell_numbers, combined, edge_rows, face_rows, homologies_from, is_form, sign_of)
from wedgespace.checker_images import count_images
from wedgespace.checker_moves import gluing_at_end, is_renamed
from wedgespace.checker_spaces import check_space
from wedgespace.errors import BadNumber, TooLarge

GREATEST_COUNTED_DEGREE = 3
MOST_FOR_IMAGES = 3


def is_way(one, other, way):
    """Return True if a pair is accepted as a way from the first gluing to the second one."""
    check_space(one)
    check_space(other)
    return leads_from(one, other, way)


def homologies_told(gluing, forms):
    """Return the list of the homologies that three diagonal forms tell, or None."""
    check_space(gluing)
    return told_by_forms(gluing, forms)


def are_signs(gluing, signs):
    """Return True if a list of signs is accepted, otherwise False."""
    check_space(gluing)
    return are_fitting(gluing, signs)


def is_turning_circle(gluing, circle):
    """Return True if a list of pairs is accepted as a turning circle, otherwise False."""
    check_space(gluing)
    return turns_around(gluing, circle)


def is_filling(gluing, cycle, chain):
    """Return True if a chain of dimension 2 is accepted as a filling of a cycle."""
    check_space(gluing)
    if not is_cycle(gluing, cycle) or len(chain) != 2 * len(gluing):
        return False
    return combined(chain, face_rows(gluing), len(cycle)) == cycle


def is_cycle_test(gluing, cycle, test):
    """Return True if a pair is accepted as a test of a cycle, otherwise False."""
    check_space(gluing)
    modulus, weights = test
    if not is_cycle(gluing, cycle) or len(weights) != len(cycle):
        return False
    if modulus != 0 and modulus < 2:
        return False
    if not all([is_nothing(row, weights, modulus) for row in face_rows(gluing)]):
        return False
    return not is_nothing(cycle, weights, modulus)


def image_count(gluing, degree):
    """Return the number of images of a degree from 1 to 3 of at most 3 tetrahedra."""
    check_space(gluing)
    if not 1 <= degree <= GREATEST_COUNTED_DEGREE:
        raise BadNumber("a degree is from 1 to 3")
    if len(gluing) > MOST_FOR_IMAGES:
        raise TooLarge("the gluing has more than 3 tetrahedra")
    return count_images(gluing, degree)


def shown(one, other, answer):
    """Return what an answer shows for two gluings: "same", "other", "open" or "none"."""
    check_space(one)
    check_space(other)
    kind = answer[0]
    if kind == "open":
        return "open"
    if kind == "same":
        return "same" if leads_from(one, other, answer[1]) else "none"
    if kind == "homology":
        is_shown = are_told_apart(one, other, answer[1], answer[2])
    elif kind == "sides":
        is_shown = is_one_sided(one, other, answer[1], answer[2])
    else:
        is_shown = have_other_counts(one, other, answer[1])
    return "other" if is_shown else "none"


# The functions below take closed gluings.


def leads_from(one, other, way):
    """Return True if a pair is a way from the first gluing to the second one."""
    log, renaming = way
    end = gluing_at_end(one, log)
    return end is not None and is_renamed(end, other, renaming)


def told_by_forms(gluing, forms):
    """Return the list of the homologies that three diagonal forms tell, or None."""
    counts = cell_numbers(gluing)
    if len(forms) != 3 or any([len(form) != 5 for form in forms]):
        return None
    for rows, width, form in zip(borders_of(gluing), counts, forms):
        if not is_form(rows, width, form):
            return None
    return homologies_from([diagonal for _, _, diagonal, _, _ in forms], counts)


def turning_factor(p):
    """Return the number -s for the sign s of a permutation."""
    return -sign_of(p)


def are_fitting(gluing, signs):
    """Return True if tetrahedra can have the signs of a list."""
    if len(signs) != len(gluing) or not all([sign in (1, -1) for sign in signs]):
        return False
    entries = [(t, u, p) for t, row in enumerate(gluing) for u, p in row]
    return all([signs[t] * signs[u] == turning_factor(p) for t, u, p in entries])


def turns_around(gluing, circle):
    """Return True if a list of pairs is a turning circle."""
    if circle == [] or not all([0 <= t < len(gluing) and 0 <= f < 4 for t, f in circle]):
        return False
    product = 1
    for at, (t, f) in enumerate(circle):
        u, p = gluing[t][f]
        # The pair before the first one is the last one.
        if circle[at + 1 - len(circle)][0] != u:
            return False
        product *= turning_factor(p)
    return product == -1


def is_cycle(gluing, cycle):
    """Return True if a list is a cycle of dimension 1."""
    counts = cell_numbers(gluing)
    if len(cycle) != counts[1]:
        return False
    return not any(combined(cycle, edge_rows(gluing), counts[0]))


def is_nothing(row, weights, modulus):
    """Return True if a row multiplied by weights adds up to 0, as a remainder if there is a modulus."""
    total = sum([entry * weight for entry, weight in zip(row, weights)])
    return total == 0 if modulus == 0 else total % modulus == 0


def are_told_apart(one, other, forms, others):
    """Return True if diagonal forms are accepted and tell different homologies."""
    told = told_by_forms(one, forms)
    other_told = told_by_forms(other, others)
    return told is not None and other_told is not None and told != other_told


def is_one_sided(one, other, signs, circle):
    """Return True if signs are accepted for one of the gluings, and a circle for the other one."""
    if are_fitting(one, signs) and turns_around(other, circle):
        return True
    return are_fitting(other, signs) and turns_around(one, circle)


def have_other_counts(one, other, degree):
    """Return True if the numbers of images of the degree 2 or 3 of small gluings differ."""
    if degree not in (2, 3) or max(len(one), len(other)) > MOST_FOR_IMAGES:
        return False
    return count_images(one, degree) != count_images(other, degree)
