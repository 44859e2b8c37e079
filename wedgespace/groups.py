"""The group of the paths of a closed gluing: its relators, words, loops and names."""

from wedgespace.errors import BadNumber, NotWord
from wedgespace.links import check_closed_space
from wedgespace.paths import (
    branch_to, check_one_piece, circle_around, face_pairs, generator_numbers, letters_of_faces,
    path_back, places_of_path, word_through)
from wedgespace.renaming import check_renaming, renamed_gluing
from wedgespace.skeleton import edge_classes_of


def group_of(gluing):
    """Return the group of a closed gluing: the number of its generators, and its relators."""
    check_one_piece(gluing)
    check_closed_space(gluing)
    letters = letters_of_faces(gluing)
    first_places = [places[0] for places in edge_classes_of(gluing)]
    circles = [circle_around(gluing, t, e) for t, e in first_places]
    return (len(gluing) + 1, tuple([word_through(gluing, path, letters) for path in circles]))


def inverse_word(word):
    """Return the inverse of a word."""
    check_word(word)
    return tuple([-letter for letter in reversed(word)])


def cut_word(word):
    """Return the word without any two neighbouring letters whose sum is 0."""
    check_word(word)
    kept = []
    for letter in word:
        if kept != [] and kept[-1] == -letter:
            kept.pop()
        else:
            kept.append(letter)
    return tuple(kept)


def check_word(word):
    """Raise NotWord if a tuple of integers has a 0."""
    if 0 in word:
        raise NotWord("0 is no letter")


def loop(gluing, k):
    """Return the loop of a generator."""
    check_one_piece(gluing)
    if not 0 <= k <= len(gluing):
        raise BadNumber("there is no such generator")
    return loop_of(gluing, k)


def loop_of(gluing, k):
    """Return the loop of a generator of a joined gluing."""
    t, f, u, _ = face_pairs(gluing)[generator_numbers(gluing)[k]]
    start, there = branch_to(gluing, t)
    _, back = path_back(gluing, branch_to(gluing, u))
    return (start, (*there, f, *back))


def names(gluing, renaming):
    """Return the tuple of the names of all generators under a renaming."""
    check_one_piece(gluing)
    check_renaming(len(gluing), renaming)
    other = renamed_gluing(gluing, renaming)
    letters = letters_of_faces(other)
    loops = [loop_of(gluing, k) for k in range(len(gluing) + 1)]
    # The branch to the beginning of a renamed loop has no letters, there and back.
    return tuple([word_through(other, renamed_path(gluing, path, renaming), letters) for path in loops])


def renamed_path(gluing, path, renaming):
    """Return the path of the renamed gluing to which a renaming takes a path."""
    start, _ = path
    faces = [renaming[t][1][f] for t, f in places_of_path(gluing, path)]
    return (renaming[start][0], tuple(faces))


def sums(count, word):
    """Return the sum of a word for a number of generators."""
    if count < 0:
        raise BadNumber("there is no negative number of generators")
    if not are_letters(count, word):
        raise NotWord("a letter is 0 or has no generator")
    total = [0 for _ in range(count)]
    for letter in word:
        if letter > 0:
            total[letter - 1] += 1
        else:
            total[-letter - 1] -= 1
    return total


def are_letters(count, word):
    """Return True if all integers of a tuple are letters of a number of generators."""
    return all([letter != 0 and abs(letter) <= count for letter in word])
