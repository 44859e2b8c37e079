"""Balls of gluings around a closed gluing, and the search for a way between two of them."""

from wedgespace.errors import BadNumber, TooLarge
from wedgespace.forms import least_walk
from wedgespace.links import check_closed
from wedgespace.moves import ADDED, gluing_behind, moves_of_kinds, size_behind
from wedgespace.ways import joined_way, undone_way

GREATEST_RADIUS = 2
GREATEST_MOST = 6
MOST_FORMS = 400


def ball(gluing, radius, *, most):
    """Return the ascending list of the standard forms of a ball."""
    check_closed(gluing)
    if not 0 <= radius <= GREATEST_RADIUS:
        raise BadNumber("a radius is from 0 to 2")
    check_most(most)
    found = Ball(gluing, most)
    for _ in range(radius):
        found.grow()
    check_count(found)
    return sorted(found.ways)


def find_way(one, other, *, most=4):
    """Return a way from the first gluing to the second one, or None if none was found."""
    check_closed(one)
    check_closed(other)
    check_most(most)
    near = Ball(one, most)
    far = Ball(other, most)
    way = way_through_balls(near, far)
    near.grow()
    far.grow()
    check_count(near)
    check_count(far)
    if way is None and max(len(one), len(other)) <= most:
        way = way_through_balls(near, far)
        if way is None:
            near.grow()
            far.grow()
            way = way_through_balls(near, far)
    return way


def check_most(most):
    """Raise BadNumber if a greatest number of tetrahedra is not one that is allowed."""
    if not 1 <= most <= GREATEST_MOST:
        raise BadNumber("a greatest number of tetrahedra is from 1 to 6")


def check_count(found):
    """Raise TooLarge if a ball has too many forms."""
    if len(found.ways) > MOST_FORMS:
        raise TooLarge("a ball has more than 400 forms")


def way_through_balls(near, far):
    """Return a way that leads through a form in both balls, or None.

    Each move is undone by a move: so balls of a radius find all ways of twice as many moves.
    """
    for form in near.ways:
        if form in far.ways:
            back = undone_way(far.gluing, form, far.ways[form])
            return joined_way(near.gluing, near.ways[form], back)
    return None


def steps_from(log, end, most):
    """Return the pairs of a log with one move more, and of the neighbour of the end behind it."""
    moves = [move for move in moves_of_kinds(end, list(ADDED)) if size_behind(end, move) <= most]
    return [((*log, move), gluing_behind(end, move)) for move in moves]


class Ball:
    """A ball around a closed gluing, at first of the radius 0.

    `ways` is a dict with a way from the gluing to each form of the ball, and `outermost` has the
    pairs of a log and its end for those forms that came last.
    """

    def __init__(self, gluing, most):
        form, renaming = least_walk(gluing)
        self.gluing = gluing
        self.most = most
        self.ways = {form: ((), renaming)}
        self.outermost = [((), gluing)]

    def grow(self):
        """Make the radius greater by 1."""
        reached = [step for log, end in self.outermost for step in steps_from(log, end, self.most)]
        self.outermost = []
        for log, end in reached:
            form, renaming = least_walk(end)
            if form not in self.ways:
                self.ways[form] = (log, renaming)
                self.outermost.append((log, end))
