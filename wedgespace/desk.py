"""A desk: gluings under names, and answers to lines of text."""

from wedgespace.errors import WedgeError
from wedgespace.lines import is_name, number_in, words_of
from wedgespace.operations import gluing_made, text_answered

# What the words behind each command must be: n for a name, g for the name of a gluing, x for an
# integer, and a star for any words.
COMMANDS = {
    "gluing": "n*", "ring": "nxx", "drop": "g", "show": "g", "mirror": "ng", "form": "ng",
    "union": "ngg", "split": "ngx", "join": "ngxx", "face": "ngxx", "edge": "ngxx", "size": "g",
    "corners": "g", "degrees": "g", "links": "g", "isjoined": "g", "isclosed": "g", "turns": "g",
    "symmetries": "g", "moves": "g", "homology": "gx", "group": "g", "covers": "gx", "axis": "gxx",
    "surfaces": "g", "alike": "gg", "decide": "gg",
}


class Desk:
    """Gluings by their names."""

    def __init__(self):
        self.gluings = {}

    def answer(self, line):
        """Return the answer to a line, and change the desk."""
        words = words_of(line)
        if words is None or not is_command(words):
            return "bad"
        kinds = kinds_of(words)
        for word, kind in zip(words[1:], kinds):
            if kind == "g" and word not in self.gluings:
                return f"unknown {word}"
        try:
            return self.answer_known(words, kinds)
        except WedgeError:
            return "refused"

    def answers(self, lines):
        """Return the list of the answers to several lines, in order."""
        return [self.answer(line) for line in lines]

    def names(self):
        """Return the sorted list of the names that have a gluing."""
        return sorted(self.gluings)

    def thing(self, name):
        """Return the gluing of a name, or None."""
        return self.gluings.get(name)

    def answer_known(self, words, kinds):
        """Return the answer to the words of a command whose gluings there are, or raise an error."""
        command, first, *rest = words
        if command == "drop":
            del self.gluings[first]
            return "ok"
        things = self.things_told(words[1:], kinds)
        if kinds.startswith("n"):
            self.gluings[first] = gluing_made(command, rest, things)
            return "ok"
        return text_answered(command, things)

    def things_told(self, words, kinds):
        """Return the list of the gluings and integers that words tell, in their order."""
        things = []
        for word, kind in zip(words, kinds):
            if kind == "g":
                things.append(self.gluings[word])
            elif kind == "x":
                things.append(number_in(word))
        return things


def kinds_of(words):
    """Return a string with the kinds of the words behind a command; a star is any word."""
    kinds = COMMANDS[words[0]]
    if kinds.endswith("*"):
        return kinds[:-1] + "*" * (len(words) - len(kinds))
    return kinds


def is_command(words):
    """Return True if words are a command with as many and such words behind it as it needs."""
    if words[0] not in COMMANDS or len(words) == 1:
        return False
    kinds = kinds_of(words)
    if len(words) != len(kinds) + 1:
        return False
    return all([is_of_kind(word, kind) for word, kind in zip(words[1:], kinds)])


def is_of_kind(word, kind):
    """Return True if a word can stand where a kind of words must stand."""
    if kind == "x":
        return number_in(word) is not None
    return kind == "*" or is_name(word)
