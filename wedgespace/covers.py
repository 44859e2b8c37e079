"""Covers of joined gluings by images, and what the covers of closed gluings tell."""

from wedgespace.chains import is_turning
from wedgespace.errors import TooLarge
from wedgespace.gluings import MOST_TETRAHEDRA
from wedgespace.groups import group_of, loop_of
from wedgespace.homology import homology
from wedgespace.images import all_images, check_images, classes_of, image_of_word, is_least, is_transitive
from wedgespace.paths import check_one_piece, letters_of_faces, places_of_path

MOST_IN_HOMOLOGIES = 12


def cover(gluing, images):
    """Return the cover of a joined gluing by images."""
    check_one_piece(gluing)
    check_images(len(gluing) + 1, images)
    if len(gluing) * len(images[0]) > MOST_TETRAHEDRA:
        raise TooLarge("the cover has more than 40 tetrahedra")
    return cover_of(gluing, images)


def side_images(gluing):
    """Return the side images of a joined gluing."""
    check_one_piece(gluing)
    loops = [places_of_path(gluing, loop_of(gluing, k)) for k in range(len(gluing) + 1)]
    return tuple([(1, 0) if is_turning(gluing, places) else (0, 1) for places in loops])


def cover_numbers(gluing, degree):
    """Return the numbers of images, of their classes, and of the classes of transitive ones."""
    group = group_of(gluing)
    found = list(all_images(group, degree))
    classes = [images for images in found if is_least(images)]
    transitive = [images for images in classes if is_transitive(images)]
    return (len(found), len(classes), len(transitive))


def cover_homologies(gluing, degree):
    """Return the ascending list of the homologies of dimension 1 of all covers in one piece."""
    group = group_of(gluing)
    transitive = [images for images in classes_of(group, degree) if is_transitive(images)]
    # Where there is no such cover, none is too large.
    if transitive != [] and len(gluing) * degree > MOST_IN_HOMOLOGIES:
        raise TooLarge("a cover has more than 12 tetrahedra")
    return sorted([homology(cover_of(gluing, images), 1) for images in transitive])


def cover_of(gluing, images):
    """Return the cover of a joined gluing by images that were checked, of any size."""
    degree = len(images[0])
    letters = letters_of_faces(gluing)
    rows = []
    for t, row in enumerate(gluing):
        images_of_faces = [image_of_word(images, word_of_letter(letters[(t, f)])) for f in range(4)]
        for s in range(degree):
            copies = [image[s] for image in images_of_faces]
            rows.append(tuple([(u * degree + copy, p) for (u, p), copy in zip(row, copies)]))
    return tuple(rows)


def word_of_letter(letter):
    """Return the word of a pair that has a letter, the empty word for 0."""
    return () if letter == 0 else (letter,)
