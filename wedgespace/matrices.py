"""Matrices of integers: lists of rows. The number of columns is told, since there may be no rows."""

from wedgespace.errors import NotMatrix

MOST_LINES = 120


def is_matrix(rows, columns):
    """Return True if a list of lists is a matrix with a number of columns, otherwise False."""
    if not 0 <= columns <= MOST_LINES or len(rows) > MOST_LINES:
        return False
    return all([len(row) == columns for row in rows])


def check_matrix(rows, columns):
    """Raise NotMatrix if a list of lists is not a matrix with a number of columns."""
    if not is_matrix(rows, columns):
        raise NotMatrix("a list is not a matrix with the told number of columns")


def check_vector(vector, size):
    """Raise NotMatrix if a list does not have a number of entries."""
    if len(vector) != size:
        raise NotMatrix("a vector has another number of entries than the matrix needs")


def identity(size):
    """Return the identity with a number of rows and columns."""
    if not 0 <= size <= MOST_LINES:
        raise NotMatrix("a matrix has at most 120 rows and columns")
    return identity_rows(size)


def product(one, other, columns):
    """Return the product of two matrices; the second one has the told number of columns."""
    check_matrix(other, columns)
    check_matrix(one, len(other))
    return product_rows(one, other, columns)


def times(vector, rows, columns):
    """Return the product of a vector and a matrix."""
    check_matrix(rows, columns)
    check_vector(vector, len(rows))
    return vector_product(vector, rows, columns)


def transposed(rows, columns):
    """Return the matrix with rows and columns exchanged."""
    check_matrix(rows, columns)
    return transposed_rows(rows, columns)


# The functions below take matrices and vectors that fit to each other, of any size.


def identity_rows(size):
    """Return the rows of an identity."""
    return [[1 if i == j else 0 for j in range(size)] for i in range(size)]


def product_rows(one, other, columns):
    """Return the rows of a product; the second matrix has the told number of columns."""
    return [vector_product(row, other, columns) for row in one]


def vector_product(vector, rows, columns):
    """Return the product of a vector and the rows of a matrix."""
    total = [0 for _ in range(columns)]
    for factor, row in zip(vector, rows):
        if factor != 0:
            total = [entry + factor * more for entry, more in zip(total, row)]
    return total


def transposed_rows(rows, columns):
    """Return the rows of the matrix with rows and columns exchanged."""
    return [[row[j] for row in rows] for j in range(columns)]
