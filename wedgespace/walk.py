"""Balls of gluings around a closed gluing, and the search for a way between two of them."""

from wedgespace.errors import BadNumber, TooLarge
from wedgespace.forms import least_walk
from wedgespace.links import check_closed
from wedgespace.moves import ADDED, gluing_behind, moves_of_kinds, size_behind
from wedgespace.ways import joined_way, undone_way

GREATEST_RADIUS = 2
GREATEST_MOST = 6
MOST_FORMS = 400


def ball(gluing, radius, *, most):
    """Return the ascending list of the standard forms of a ball."""
    check_closed(gluing)
    if not 0 <= radius <= GREATEST_RADIUS:
        raise BadNumber("a radius is from 0 to 2")
    check_most(most)
    ways = ways_around(gluing, radius, most)
    check_count(ways)
    return sorted(ways)


def find_way(one, other, *, most=4):
    """Return a way from the first gluing to the second one, or None if none was found."""
    check_closed(one)
    check_closed(other)
    check_most(most)
    check_count(ways_around(one, 1, most))
    check_count(ways_around(other, 1, most))
    reach = GREATEST_RADIUS if max(len(one), len(other)) <= most else 0
    for radius in range(reach + 1):
        way = way_through_balls(one, other, radius, most)
        if way is not None:
            return way
    return None


def check_most(most):
    """Raise BadNumber if a greatest number of tetrahedra is not one that is allowed."""
    if not 1 <= most <= GREATEST_MOST:
        raise BadNumber("a greatest number of tetrahedra is from 1 to 6")


def check_count(ways):
    """Raise TooLarge if a ball, which was told by the ways to its forms, has too many of them."""
    if len(ways) > MOST_FORMS:
        raise TooLarge("a ball has more than 400 forms")


def way_through_balls(one, other, radius, most):
    """Return a way that leads through a form in the balls around both gluings, or None.

    Each move is undone by a move: so the balls of a radius find all ways of twice as many moves.
    """
    ways = ways_around(one, radius, most)
    other_ways = ways_around(other, radius, most)
    for form in ways:
        if form in other_ways:
            return joined_way(one, ways[form], undone_way(other, form, other_ways[form]))
    return None


def ways_around(gluing, radius, most):
    """Return a dict that has, for each form of a ball, a way from the gluing to it."""
    form, renaming = least_walk(gluing)
    ways = {form: ((), renaming)}
    outermost = [((), gluing)]
    for _ in range(radius):
        reached = [step for log, end in outermost for step in steps_from(log, end, most)]
        outermost = []
        for log, end in reached:
            form, renaming = least_walk(end)
            if form not in ways:
                ways[form] = (log, renaming)
                outermost.append((log, end))
    return ways


def steps_from(log, end, most):
    """Return the pairs of a log with one move more, and of the neighbour of the end behind it."""
    moves = [move for move in moves_of_kinds(end, list(ADDED)) if size_behind(end, move) <= most]
    return [((*log, move), gluing_behind(end, move)) for move in moves]
