"""Ways from one closed gluing to another one: logs of moves, and a renaming at the end."""

from wedgespace.errors import BadMove, NotWay
from wedgespace.forms import some_renaming
from wedgespace.gluings import MOST_TETRAHEDRA
from wedgespace.links import check_closed
from wedgespace.moves import gluing_behind, is_possible, size_behind
from wedgespace.renaming import (
    inverse_of_renaming, is_renaming, product_of_renamings, renamed_gluing, same_names)
from wedgespace.undo import carried_back, undoing_of


def replay(gluing, log):
    """Return the list of the gluings of a log: the first one, and the one behind each move."""
    check_closed(gluing)
    return gluings_of_log(gluing, log)


def is_way(one, other, way):
    """Return True if a pair is a way from the first gluing to the second one, otherwise False."""
    check_closed(one)
    check_closed(other)
    return leads_to(one, other, way)


def undone(one, other, way):
    """Return the way that leads back from the second gluing to the first one."""
    check_closed(one)
    check_closed(other)
    check_way(one, other, way)
    return undone_way(one, other, way)


def joined(one, middle, other, first, second):
    """Return the way from the first gluing through the second one to the third one."""
    check_closed(one)
    check_closed(middle)
    check_closed(other)
    check_way(one, middle, first)
    check_way(middle, other, second)
    return joined_way(one, first, second)


def shortened(one, other, way):
    """Return a way between the same gluings that is reduced at no place."""
    check_closed(one)
    check_closed(other)
    check_way(one, other, way)
    log, renaming = way
    course = Course(one, same_names(len(one)))
    for move in log:
        course.follow(move)
        course.take_pair_away()
    return course.way(renaming)


# The functions below take closed gluings.


def gluings_of_log(gluing, log):
    """Return the list of the gluings of a log, or raise BadMove."""
    gluings = [gluing]
    for at, move in enumerate(log):
        last = gluings[-1]
        if not is_possible(last, move) or size_behind(last, move) > MOST_TETRAHEDRA:
            raise BadMove(at)
        gluings.append(gluing_behind(last, move))
    return gluings


def leads_to(one, other, way):
    """Return True if a pair is a way from the first gluing to the second one, otherwise False."""
    log, renaming = way
    try:
        gluings = gluings_of_log(one, log)
    except BadMove:
        return False
    end = gluings[-1]
    return is_renaming(len(end), renaming) and renamed_gluing(end, renaming) == other


def check_way(one, other, way):
    """Raise NotWay if a pair is not a way from the first gluing to the second one."""
    if not leads_to(one, other, way):
        raise NotWay("a pair is not a way from the one gluing to the other one")


def undone_way(one, other, way):
    """Return the way that leads back; the pair is a way from the first gluing to the second one."""
    log, renaming = way
    gluings = gluings_of_log(one, log)
    course = Course(other, inverse_of_renaming(renaming))
    for at in reversed(range(len(log))):
        back, leading_back = undoing_of(gluings[at], log[at])
        course.follow(back)
        course.lead_on(leading_back)
    return course.way(same_names(len(one)))


def joined_way(one, first, second):
    """Return the way that consists of a way from the gluing, and a way from where it ends."""
    first_log, first_renaming = first
    second_log, second_renaming = second
    course = Course(one, same_names(len(one)))
    for move in first_log:
        course.follow(move)
    course.lead_on(first_renaming)
    for move in second_log:
        course.follow(move)
    return course.way(second_renaming)


class Course:
    """Moves from a gluing on that follow the moves of another row of gluings.

    `gluings` are the gluings of the moves, as those of a log. `leading` is a renaming that takes
    the last one to that gluing of the other row to which the course came.
    """

    def __init__(self, gluing, leading):
        self.gluings = [gluing]
        self.moves = []
        self.leading = leading

    def follow(self, move):
        """Make the move that goes along with a move of the gluing of the other row."""
        last = self.gluings[-1]
        back, leading = carried_back(last, self.leading, move)
        self.moves.append(back)
        self.gluings.append(gluing_behind(last, back))
        self.leading = leading

    def lead_on(self, renaming):
        """Go on from another gluing, to which a renaming takes that of the other row."""
        self.leading = product_of_renamings(self.leading, renaming)

    def take_pair_away(self):
        """Take the last two moves away if a renaming leads over them."""
        if len(self.moves) < 2:
            return
        over = some_renaming(self.gluings[-3], self.gluings[-1])
        if over is not None:
            self.moves = self.moves[:-2]
            self.gluings = self.gluings[:-2]
            self.leading = product_of_renamings(over, self.leading)

    def way(self, renaming):
        """Return the way to the gluing to which a renaming takes that of the other row."""
        return (tuple(self.moves), product_of_renamings(self.leading, renaming))
