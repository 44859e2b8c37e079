"""Diagonal forms of matrices of integers, and what they tell: divisors, combinations, kernels."""

from wedgespace.matrices import (
    check_matrix, check_vector, identity_rows, is_matrix, product_rows, transposed_rows,
    vector_product)
from wedgespace.rowsteps import RowSteps, divisor_with_factors, step_down


def diagonal_form(rows, columns):
    """Return a diagonal form of a matrix, a tuple of five matrices."""
    check_matrix(rows, columns)
    return form_of(rows, columns)


def is_diagonal_form(rows, columns, form):
    """Return True if five lists of lists are a diagonal form of a matrix, otherwise False."""
    check_matrix(rows, columns)
    left, left_inverse, diagonal, right, right_inverse = form
    if not are_inverse(left, left_inverse, len(rows)):
        return False
    if not are_inverse(right, right_inverse, columns):
        return False
    if product_rows(product_rows(left, rows, columns), right, columns) != diagonal:
        return False
    return is_diagonal(diagonal) and is_dividing(entries_on_diagonal(diagonal, columns))


def divisors(rows, columns):
    """Return the list of the divisors of a matrix."""
    check_matrix(rows, columns)
    _, _, diagonal, _, _ = form_of(rows, columns)
    return divisors_on(diagonal, columns)


def combination(rows, columns, vector):
    """Return a combination of the rows of a matrix that is a vector, or None."""
    check_matrix(rows, columns)
    check_vector(vector, columns)
    left, _, diagonal, right, _ = form_of(rows, columns)
    found = divisors_on(diagonal, columns)
    wanted = vector_product(vector, right, columns)
    if first_missed(found, wanted) is not None:
        return None
    # A combination w of the diagonal for the vector times `right` is w times `left` for the matrix.
    factors = [entry // divisor for entry, divisor in zip(wanted, found)]
    return vector_product(factors, left, len(rows))


def test_weights(rows, columns, vector):
    """Return test weights for a matrix and a vector, or None."""
    check_matrix(rows, columns)
    check_vector(vector, columns)
    _, _, diagonal, right, _ = form_of(rows, columns)
    found = divisors_on(diagonal, columns)
    k = first_missed(found, vector_product(vector, right, columns))
    if k is None:
        return None
    # The matrix times this column of `right` has only multiples of the entry of the diagonal.
    modulus = found[k] if k < len(found) else 0
    return (modulus, [row[k] for row in right])


def kernel(rows, columns):
    """Return a basis of the kernel of a matrix, a list of vectors."""
    check_matrix(rows, columns)
    left, _, diagonal, _, _ = form_of(rows, columns)
    return left[len(divisors_on(diagonal, columns)):]


# The functions below take matrices of any size.


def form_of(rows, columns):
    """Return a diagonal form of a matrix."""
    left = RowSteps([list(row) for row in rows], len(rows))
    right = RowSteps(transposed_rows(rows, columns), columns)
    step_down(left, columns)
    while not is_diagonal(left.rows):
        right.rows = transposed_rows(left.rows, columns)
        step_down(right, len(rows))
        left.rows = transposed_rows(right.rows, len(rows))
        step_down(left, columns)
    make_dividing(left, right, columns)
    left_inverse = transposed_rows(left.undone, len(rows))
    return (left.made, left_inverse, left.rows, transposed_rows(right.made, columns), right.undone)


def make_dividing(left, right, columns):
    """Make each entry of the diagonal `left.rows` that is not 0 divide the next one."""
    rank = len(divisors_on(left.rows, columns))
    for i in range(rank):
        for k in range(i + 1, rank):
            a = left.rows[i][i]
            b = left.rows[k][k]
            if b % a != 0:
                divisor, x, y = divisor_with_factors(a, b)
                left.combine(i, k, x, y, a // divisor, b // divisor)
                right.rows = transposed_rows(left.rows, columns)
                right.combine(i, k, 1, 1, x * a // divisor, y * b // divisor)
                left.rows = transposed_rows(right.rows, len(left.rows))


def is_diagonal(rows):
    """Return True if all entries outside of the diagonal are 0."""
    return all([rows[i][j] == 0 for i in range(len(rows)) for j in range(len(rows[i])) if i != j])


def entries_on_diagonal(rows, columns):
    """Return the list of the entries on the diagonal."""
    return [rows[i][i] for i in range(min(len(rows), columns))]


def is_dividing(entries):
    """Return True if no entry is negative and each one divides the next one."""
    for k, entry in enumerate(entries):
        if entry < 0:
            return False
        if k > 0 and not divides(entries[k - 1], entry):
            return False
    return True


def divides(divisor, entry):
    """Return True if an integer divides another one; 0 divides 0 alone."""
    return entry == 0 if divisor == 0 else entry % divisor == 0


def are_inverse(one, other, size):
    """Return True if two lists of lists are matrices of a size that are inverse to each other."""
    for rows in (one, other):
        if len(rows) != size or not is_matrix(rows, size):
            return False
    unit = identity_rows(size)
    return product_rows(one, other, size) == unit and product_rows(other, one, size) == unit


def divisors_on(diagonal, columns):
    """Return the list of the entries of a diagonal that are not 0."""
    return [entry for entry in entries_on_diagonal(diagonal, columns) if entry != 0]


def first_missed(found, wanted):
    """Return the first index at which a vector is no combination of a diagonal, or None.

    The diagonal is told by its divisors.
    """
    for k, entry in enumerate(wanted):
        if k >= len(found):
            if entry != 0:
                return k
        elif entry % found[k] != 0:
            return k
    return None
