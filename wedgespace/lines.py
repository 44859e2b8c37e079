"""The lines of a desk: their words, names and integers."""

SMALL_LETTERS = "abcdefghijklmnopqrstuvwxyz"
DIGITS = "0123456789"
LONGEST_NAME = 12
PERCENT = 37


def words_of(line):
    """Return the list of the words of a line, or None if it is malformed."""
    words = line.split(" ")
    # A space at an end, or two of them side by side, leave an empty word; so does the empty line.
    if "" in words or not is_plain(line):
        return None
    return words


def is_plain(line):
    """Return True if all characters are from the space to ~, except the percent sign."""
    return all([" " <= character <= "~" and ord(character) != PERCENT for character in line])


def is_name(word):
    """Return True if a word is 1 to 12 small letters, otherwise False."""
    return 1 <= len(word) <= LONGEST_NAME and all([letter in SMALL_LETTERS for letter in word])


def number_in(word):
    """Return the integer from 0 to 99 whose decimal form a word is, or None."""
    if not 1 <= len(word) <= 2 or not all([digit in DIGITS for digit in word]):
        return None
    if len(word) == 2 and word[0] == "0":
        return None
    return int(word)
