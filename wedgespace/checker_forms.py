"""The checker's own borders, and its own look at diagonal forms of them."""

from wedgespace.checker_spaces import corner_cells, edge_cells, face_fronts


def cell_numbers(gluing):
    """Return the list of the numbers of the cells of the dimensions 0 to 3."""
    n = len(gluing)
    corners = max(list(corner_cells(gluing).values())) + 1
    edges = max([k for k, _ in edge_cells(gluing).values()]) + 1
    return [corners, edges, 2 * n, n]


def borders_of(gluing):
    """Return the list of the border matrices of the dimensions 1, 2 and 3."""
    return [edge_rows(gluing), face_rows(gluing), tetrahedron_rows(gluing)]


def edge_rows(gluing):
    """Return the border matrix of dimension 1."""
    corners = corner_cells(gluing)
    cells = edge_cells(gluing)
    counts = cell_numbers(gluing)
    rows = [None for _ in range(counts[1])]
    for (t, a, b), (k, sign) in cells.items():
        # All members of a class that point the same way have the same border.
        if sign == 1:
            rows[k] = added(counts[0], [(corners[(t, b)], 1), (corners[(t, a)], -1)])
    return rows


def face_rows(gluing):
    """Return the border matrix of dimension 2."""
    cells = edge_cells(gluing)
    count = cell_numbers(gluing)[1]
    rows = []
    for t, f in face_fronts(gluing):
        a, b, c = [i for i in range(4) if i != f]
        rows.append(added(count, [cells[(t, b, c)], cells[(t, c, a)], cells[(t, a, b)]]))
    return rows


def tetrahedron_rows(gluing):
    """Return the border matrix of dimension 3."""
    fronts = face_fronts(gluing)
    numbers = {front: k for k, front in enumerate(fronts)}
    rows = []
    for t, row in enumerate(gluing):
        terms = []
        for f, (u, p) in enumerate(row):
            factor = 1 - 2 * (f % 2)
            if (t, f) in numbers:
                terms.append((numbers[(t, f)], factor))
            else:
                images = [p[i] for i in range(4) if i != f]
                terms.append((numbers[(u, p[f])], factor * sign_of(images)))
        rows.append(added(len(fronts), terms))
    return rows


def sign_of(images):
    """Return 1 if an even number of exchanges sorts different integers, otherwise -1."""
    sign = 1
    for k, image in enumerate(images):
        for before in images[:k]:
            if before > image:
                sign = -sign
    return sign


def added(size, terms):
    """Return the row in which the terms, pairs of a column and a factor, add up."""
    row = [0 for _ in range(size)]
    for column, factor in terms:
        row[column] += factor
    return row


def combined(vector, rows, size):
    """Return the sum of the rows, of a told size, each multiplied by its entry of the vector."""
    total = [0 for _ in range(size)]
    for at, factor in enumerate(vector):
        if factor != 0:
            for column, entry in enumerate(rows[at]):
                total[column] += factor * entry
    return total


def is_unit(one, other):
    """Return True if the product of two square matrices of one size is the identity."""
    size = len(one)
    for at, row in enumerate(one):
        if combined(row, other, size) != added(size, [(at, 1)]):
            return False
    return True


def has_size(rows, height, width):
    """Return True if a list of lists has so many rows and columns."""
    return len(rows) == height and all([len(row) == width for row in rows])


def is_form(rows, width, form):
    """Return True if a tuple of five matrices is a diagonal form of a matrix with `width` columns."""
    left, left_inverse, diagonal, right, right_inverse = form
    height = len(rows)
    if not has_size(left, height, height) or not has_size(left_inverse, height, height):
        return False
    if not has_size(right, width, width) or not has_size(right_inverse, width, width):
        return False
    if not has_size(diagonal, height, width) or not is_divided(diagonal, width):
        return False
    for one, other in ((left, left_inverse), (right, right_inverse)):
        if not is_unit(one, other) or not is_unit(other, one):
            return False
    for at, line in enumerate(left):
        if combined(combined(line, rows, width), right, width) != diagonal[at]:
            return False
    return True


def is_divided(diagonal, width):
    """Return True if a matrix has entries on its diagonal alone, and each one divides the next one."""
    for at, row in enumerate(diagonal):
        if any([entry != 0 and column != at for column, entry in enumerate(row)]):
            return False
    entries = diagonal_entries(diagonal, width)
    if any([entry < 0 for entry in entries]):
        return False
    for before, entry in zip(entries[:-1], entries[1:]):
        if entry != 0 and (before == 0 or entry % before != 0):
            return False
    return True


def diagonal_entries(diagonal, width):
    """Return the list of the entries on the diagonal of a matrix."""
    return [row[at] for at, row in enumerate(diagonal) if at < width]


def homologies_from(diagonals, counts):
    """Return the homologies of the dimensions 0 to 3 from the diagonals of the border matrices."""
    told = [[]]
    for k, diagonal in enumerate(diagonals):
        told.append([entry for entry in diagonal_entries(diagonal, counts[k]) if entry != 0])
    told.append([])
    found = []
    for k in range(4):
        rank = counts[k] - len(told[k]) - len(told[k + 1])
        found.append((rank, [entry for entry in told[k + 1] if entry > 1]))
    return found
