"""Images of a group: a permutation of a few numbers for each of its generators."""

from itertools import permutations

from wedgespace.errors import BadNumber, NotGroup, NotImages, NotWord, TooLarge
from wedgespace.groups import are_letters
from wedgespace.places import reached

GREATEST_DEGREE = 4
GREATEST_LISTED_DEGREE = 3
MOST_GENERATORS = 6


def check_images(count, images):
    """Raise NotImages if a tuple is not a tuple of `count` permutations of one degree from 1 to 4."""
    if len(images) != count or not are_images(images):
        raise NotImages("a tuple does not have a permutation of one degree for each generator")


def are_images(images):
    """Return True if a tuple is one of permutations of one degree from 1 to 4, at least one."""
    if len(images) == 0 or not 1 <= len(images[0]) <= GREATEST_DEGREE:
        return False
    numbers = list(range(len(images[0])))
    return all([sorted(image) == numbers for image in images])


def permutation_of(images, word):
    """Return the permutation of a word."""
    check_images(len(images), images)
    if not are_letters(len(images), word):
        raise NotWord("a letter is 0 or has no permutation")
    return image_of_word(images, word)


def satisfies(group, images):
    """Return True if images satisfy a group, otherwise False."""
    check_group(group)
    count, relators = group
    check_images(count, images)
    return all([moves_nothing(images, word) for word in relators])


def is_transitive(images):
    """Return True if images take each number to each other one, otherwise False."""
    check_images(len(images), images)
    degree = len(images[0])
    # Inverses lead nowhere else: a permutation, made often enough, does what its inverse does.
    links = {s: [image[s] for image in images] for s in range(degree)}
    return len(reached(links, 0)) == degree


def all_images(group, degree):
    """Yield all images of a degree that satisfy a group, in ascending order."""
    check_group(group)
    count, relators = group
    check_listing(count, degree)
    # The beginnings of images that are still to be looked at: the least one stands last.
    beginnings = [()]
    while beginnings != []:
        images = beginnings.pop()
        if all([moves_nothing(images, word) for word in relators_up_to(relators, len(images))]):
            if len(images) == count:
                yield images
            else:
                beginnings.extend([(*images, order) for order in orders_of(degree)[::-1]])


def classes_of(group, degree):
    """Return the ascending list of the least members of all classes of images."""
    return [images for images in all_images(group, degree) if is_least(images)]


def check_group(group):
    """Raise NotGroup if a pair is not a group."""
    count, relators = group
    if count < 1 or not all([are_letters(count, word) for word in relators]):
        raise NotGroup("a group has generators, and relators in their letters")


def check_listing(count, degree):
    """Raise BadNumber or TooLarge if images of so many generators are not listed."""
    if not 1 <= degree <= GREATEST_LISTED_DEGREE:
        raise BadNumber("a degree is from 1 to 3")
    if count > MOST_GENERATORS:
        raise TooLarge("the group has more than 6 generators")


def orders_of(degree):
    """Return the ascending list of all permutations of a degree."""
    return list(permutations(range(degree)))


# The functions below take images and words that were checked.


def image_of_word(images, word):
    """Return the permutation of a word."""
    numbers = list(range(len(images[0])))
    for letter in word:
        if letter > 0:
            image = images[letter - 1]
            numbers = [image[s] for s in numbers]
        else:
            image = images[-letter - 1]
            numbers = [image.index(s) for s in numbers]
    return tuple(numbers)


def moves_nothing(images, word):
    """Return True if the permutation of a word moves no number."""
    return list(image_of_word(images, word)) == list(range(len(images[0])))


def relators_up_to(relators, count):
    """Return the list of the relators that can be checked as soon as there are so many images.

    The empty word needs no check.
    """
    return [word for word in relators if max([abs(letter) for letter in word], default=-1) == count]


def is_least(images):
    """Return True if no member of the class of images is less."""
    for q in orders_of(len(images[0])):
        if conjugate(images, q) < images:
            return False
    return True


def conjugate(images, q):
    """Return the images that go, at each number, where the given ones go at its image under q."""
    return tuple([tuple([q.index(image[s]) for s in q]) for image in images])
