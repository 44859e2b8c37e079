"""All errors that the program raises."""


class WedgeError(ValueError):
    """The base class of all errors of the program."""


class NotJoined(WedgeError):
    """A gluing is in several pieces."""


class NotClosed(WedgeError):
    """A gluing is not closed."""


class NotRenaming(WedgeError):
    """A tuple is not a renaming, or one for another number of tetrahedra."""


class NotWord(WedgeError):
    """A tuple is not a word of the group."""


class NotImages(WedgeError):
    """A tuple is not a tuple of images."""


class NotMatrix(WedgeError):
    """A list is not a matrix or a vector of the right size."""


class NotVector(WedgeError):
    """A list is not a vector for the gluing, or not an allowed one."""


class NotWay(WedgeError):
    """A pair is not a way from one gluing to the other."""


class BadNumber(WedgeError):
    """A number or a tuple of numbers is not among those that are allowed."""


class TooLarge(WedgeError):
    """Something would have more parts than the program handles."""


class NoAnswer(WedgeError):
    """There is no answer."""


class NotGroup(WedgeError):
    """A pair is not a group."""


class OpenTrial(WedgeError):
    """A trial of a journal is going on, or none is."""


class NotGluing(WedgeError):
    """A tuple is not a gluing; `at` is the number of its first entry that is not right."""

    def __init__(self, at):
        super().__init__(f"the entry {at} of the gluing is not right")
        self.at = at


class BadMove(WedgeError):
    """A move cannot be made; `at` is its index."""

    def __init__(self, at):
        super().__init__(f"the move {at} cannot be made")
        self.at = at


class Malformed(WedgeError):
    """A text has no meaning; `at` is the index of the first word that cannot stand at its place."""

    def __init__(self, at):
        super().__init__(f"the word {at} cannot stand at its place")
        self.at = at


class BadJournal(WedgeError):
    """A record cannot be resumed; `row` is the index of its first wrong row."""

    def __init__(self, row):
        super().__init__(f"the row {row} of the record is wrong")
        self.row = row
