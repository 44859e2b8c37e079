"""Texts of gluings."""

from wedgespace.errors import Malformed
from wedgespace.gluings import check_gluing

DIGITS = "0123456789"
CORNERS = "0123"

# A row has four words, and one word stands between it and the next row.
WORDS_TO_NEXT_ROW = 5


def text_of(gluing):
    """Return the text of a gluing."""
    check_gluing(gluing)
    rows = [" ".join([word_of(u, p) for u, p in row]) for row in gluing]
    return " / ".join(rows)


def word_of(u, p):
    """Return the word of an entry."""
    corners = "".join([str(i) for i in p])
    return f"{u}:{corners}"


def read_gluing(text):
    """Return the gluing with a text."""
    words = text.split(" ")
    for at, word in enumerate(words):
        if not can_stand(word, at):
            raise Malformed(at)
    if len(words) % WORDS_TO_NEXT_ROW != 4:
        raise Malformed(len(words))
    rows = [words[at:at + 4] for at in range(0, len(words), WORDS_TO_NEXT_ROW)]
    gluing = tuple([tuple([entry_of(word) for word in row]) for row in rows])
    check_gluing(gluing)
    return gluing


def can_stand(word, at):
    """Return True if a word can stand at an index of the words of a text."""
    if at % WORDS_TO_NEXT_ROW == 4:
        return word == "/"
    number, _, corners = word.partition(":")
    return is_number(number) and len(corners) == 4 and consists_of(corners, CORNERS)


def is_number(word):
    """Return True if a word is a number of one or two digits without a leading zero."""
    if not 1 <= len(word) <= 2 or not consists_of(word, DIGITS):
        return False
    return len(word) == 1 or word[0] != "0"


def consists_of(word, characters):
    """Return True if each character of a word is one of the told ones."""
    return all([character in characters for character in word])


def entry_of(word):
    """Return the entry of a word that can stand for one."""
    number, _, corners = word.partition(":")
    return (int(number), tuple([int(corner) for corner in corners]))
