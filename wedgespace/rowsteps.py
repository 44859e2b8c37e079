"""Steps on the rows of a matrix that can be taken back, and the stairs to which they lead."""

from wedgespace.matrices import identity_rows


class RowSteps:
    """The rows of a matrix, and what the steps on them have done.

    The product of `made` and the rows at the beginning is the rows now. The rows of `undone` are
    the columns of the inverse of `made`.
    """

    def __init__(self, rows, size):
        self.rows = rows
        self.made = identity_rows(size)
        self.undone = identity_rows(size)

    def subtract(self, i, k, factor):
        """Subtract a multiple of the row k from the row i."""
        subtract_row(self.rows, i, k, factor)
        subtract_row(self.made, i, k, factor)
        subtract_row(self.undone, k, i, -factor)

    def combine(self, i, k, x, y, a, b):
        """Replace the row i by x i + y k, and the row k by a k - b i, where x a + y b is 1."""
        combine_rows(self.rows, i, k, x, y, a, b)
        combine_rows(self.made, i, k, x, y, a, b)
        combine_rows(self.undone, i, k, a, b, x, y)

    def negate(self, i):
        """Multiply the row i by -1."""
        negate_row(self.rows, i)
        negate_row(self.made, i)
        negate_row(self.undone, i)

    def arrange(self, order):
        """Bring the rows into another order, told by the list of their indexes."""
        self.rows = [self.rows[i] for i in order]
        self.made = [self.made[i] for i in order]
        self.undone = [self.undone[i] for i in order]


def subtract_row(rows, i, k, factor):
    """Subtract a multiple of the row k from the row i."""
    rows[i] = [entry - factor * other for entry, other in zip(rows[i], rows[k])]


def combine_rows(rows, i, k, x, y, a, b):
    """Replace the row i by x i + y k, and the row k by a k - b i."""
    first = rows[i]
    second = rows[k]
    rows[i] = [x * entry + y * other for entry, other in zip(first, second)]
    rows[k] = [a * other - b * entry for entry, other in zip(first, second)]


def negate_row(rows, i):
    """Multiply the row i by -1."""
    rows[i] = [-entry for entry in rows[i]]


def divisor_with_factors(a, b):
    """Return the greatest common divisor of a > 0 and b, with x and y: it is x a + y b."""
    rows = [[a, 1, 0], [b, 0, 1]]
    while rows[1][0] != 0:
        subtract_row(rows, 0, 1, rows[0][0] // rows[1][0])
        rows = [rows[1], rows[0]]
    if rows[0][0] < 0:
        negate_row(rows, 0)
    return tuple(rows[0])


def step_down(steps, columns):
    """Bring the rows into the form of stairs: each row begins further right than that above it.

    The first entry of each row that is not 0 is positive, and the rows of zeros come last.
    """
    stairs = {}
    # Rows are taken in one by one, and made small each time: so entries do not grow beyond what
    # the rows that were taken in need. Clearing column by column makes them grow without end.
    for k in range(len(steps.rows)):
        take_in(steps, stairs, k, columns)
        for c in sorted(stairs, reverse=True):
            make_small(steps, stairs, c)
    order = [stairs[c] for c in sorted(stairs)]
    steps.arrange(order + [k for k in range(len(steps.rows)) if k not in order])


def take_in(steps, stairs, k, columns):
    """Clear the row k by the stairs, a dict of rows by the columns where they begin, or add it."""
    for c in range(columns):
        if steps.rows[k][c] != 0:
            if c not in stairs:
                stairs[c] = k
                if steps.rows[k][c] < 0:
                    steps.negate(k)
                return
            clear_entry(steps, stairs[c], k, c)


def clear_entry(steps, i, k, c):
    """Make the entry of the row k in the column c 0, by the row i that begins there."""
    a = steps.rows[i][c]
    b = steps.rows[k][c]
    if b % a == 0:
        steps.subtract(k, i, b // a)
    else:
        divisor, x, y = divisor_with_factors(a, b)
        steps.combine(i, k, x, y, a // divisor, b // divisor)


def make_small(steps, stairs, start):
    """Make the entries of the row that begins in the column `start` small, by the rows below it."""
    k = stairs[start]
    for c in sorted(stairs):
        if c > start:
            factor = steps.rows[k][c] // steps.rows[stairs[c]][c]
            if factor != 0:
                steps.subtract(k, stairs[c], factor)
