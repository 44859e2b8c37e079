"""Promises 220 to 224: gluings by number, the next closed one, and the census."""

import itertools
import math
import random
import unittest

from tests.samples import (
    EXAMPLE, FOURTH, KLEIN, PERMUTATIONS, all_of_one, gluing_of, inverse, placed, random_gluing, ring,
    wrong_gluings)
from wedgespace.census import census, count_gluings, gluing_at, next_closed, number_of
from wedgespace.errors import BadNumber, NotGluing
from wedgespace.forms import standard_form
from wedgespace.gluings import check_gluing, is_joined
from wedgespace.links import is_closed
from wedgespace.renaming import renamed

GREAT = 10 ** 5000
WRONG_SIZES = (0, 7, -1, 40, GREAT, -GREAT)

# Numbers of closed gluings of two tetrahedra between which there are no others.
GAPS = [(2, 91335, 91493), (2, 71209, 71412), (2, 11873, 12343)]


def told_number(gluing):
    """Return the number of a gluing, by the words of the document."""
    n, m = len(gluing), 2 * len(gluing)
    left = [(t, f) for t in range(n) for f in range(4)]
    pairing, turns = 0, 0
    for k in range(1, m + 1):
        t, f = left.pop(0)
        u, p = gluing[t][f]
        choice = left.index((u, p[f]))
        left.remove((u, p[f]))
        pairing = pairing * (4 * n + 1 - 2 * k) + choice
        orders = sorted(list(order) for order in itertools.permutations([i for i in range(4) if i != p[f]]))
        turns = turns * 6 + orders.index([p[i] for i in range(4) if i != f])
    return pairing * 6 ** m + turns


def every_gluing_of_one():
    """Return all gluings of one tetrahedron in the order of the document."""
    found = []
    for partner in (1, 2, 3):
        a, b = [f for f in (1, 2, 3) if f != partner]
        first = sorted((p for p in PERMUTATIONS if p[0] == partner), key=lambda p: p[1:])
        second = sorted((q for q in PERMUTATIONS if q[a] == b), key=lambda q: [q[i] for i in range(4) if i != a])
        for p, q in itertools.product(first, second):
            row = [None] * 4
            row[0], row[partner], row[a], row[b] = (0, p), (0, inverse(p)), (0, q), (0, inverse(q))
            found.append((tuple(row),))
    return found


def some_numbers(n, count):
    """Return some numbers of gluings, the least and the greatest among them."""
    whole = count_gluings(n)
    rng = random.Random(f"numbers {n}")
    return [0, 1, 5, 6, whole // 2, whole - 2, whole - 1] + [rng.randrange(whole) for _ in range(count)]


class CountTest(unittest.TestCase):
    def test_counts(self):
        self.assertEqual([count_gluings(n) for n in (1, 2)], [108, 136080])
        for n in range(1, 7):
            self.assertEqual(count_gluings(n), math.prod(range(1, 4 * n, 2)) * 6 ** (2 * n))

    def test_wrong_sizes(self):
        for n in WRONG_SIZES:
            for call in (count_gluings, lambda n: gluing_at(n, 0), lambda n: gluing_at(n, -1),
                         lambda n: next_closed(n, 0), lambda n: next_closed(n, -1, tries=0)):
                with self.assertRaises(BadNumber):
                    call(n)


class NumberTest(unittest.TestCase):
    def test_every_gluing_of_one_tetrahedron(self):
        told = every_gluing_of_one()
        self.assertEqual((len(told), sorted(told)), (108, sorted(all_of_one())))
        for number, gluing in enumerate(told):
            self.assertEqual(gluing_at(1, number), gluing)
            self.assertEqual(number_of(gluing), number)

    def test_told_numbers(self):
        # The first pairing: each face with the next one. All turns are 0: the corners in order.
        self.assertEqual(gluing_at(1, 0), gluing_of("0:1023 0:1023 0:0132 0:0132"))
        self.assertEqual(number_of(gluing_of(EXAMPLE)), 0)
        first = gluing_of("0:1023 0:1023 0:0132 0:0132 / 1:1023 1:1023 1:0132 1:0132")
        self.assertEqual((gluing_at(2, 0), number_of(first)), (first, 0))
        # The ring of 2 and 1 pairs (0, 0) with the fifth face behind it, (0, 1) with the third of
        # those behind it, and then each face with the next but one: the choices 4, 2, 2, 0 of 7, 5, 3, 1.
        self.assertEqual(number_of(ring(2, 1)), ((4 * 5 + 2) * 3 + 2) * 6 ** 4)
        # The last one: all corners go to others in descending order.
        last = gluing_at(1, 107)
        self.assertEqual(last, gluing_of("0:3210 0:3210 0:3210 0:3210"))

    def test_by_the_words(self):
        for n in range(1, 7):
            for number in some_numbers(n, 60):
                gluing = gluing_at(n, number)
                self.assertIsNone(check_gluing(gluing))
                self.assertEqual(len(gluing), n)
                self.assertEqual(told_number(gluing), number)
                self.assertEqual(number_of(gluing), number)
            for seed in range(30):
                gluing = random_gluing(n, f"census {seed}")
                self.assertEqual(number_of(gluing), told_number(gluing))
                self.assertEqual(gluing_at(n, number_of(gluing)), gluing)

    def test_gluings_in_several_pieces(self):
        apart = placed([ring(1, 0), ring(2, 1), gluing_of(KLEIN)], [2, 0, 3, 1])
        self.assertEqual(gluing_at(4, number_of(apart)), apart)
        self.assertEqual({is_joined(gluing_at(2, number)) for number in range(0, 136080, 1009)}, {True, False})

    def test_neighbouring_numbers(self):
        for n in (2, 3, 5):
            for number in some_numbers(n, 5)[4:-1]:
                told = [gluing_at(n, number + k) for k in range(min(36, count_gluings(n) - number))]
                self.assertEqual(len(set(told)), len(told))

    def test_no_such_number(self):
        for n in range(1, 7):
            for number in (-1, count_gluings(n), count_gluings(n) + 1, GREAT, -GREAT):
                with self.assertRaises(BadNumber):
                    gluing_at(n, number)

    def test_errors_in_order(self):
        for gluing, at in wrong_gluings():
            with self.assertRaises(NotGluing) as caught:
                number_of(gluing)
            self.assertEqual(caught.exception.at, at)
        for gluing in (ring(7, 1), ring(40, 7), placed([ring(4, 1), ring(3, 1)], range(7))):
            with self.assertRaises(BadNumber):
                number_of(gluing)


class NextTest(unittest.TestCase):
    def told_next(self, n, number, tries):
        for at in range(number, min(number + tries, count_gluings(n))):
            if is_closed(gluing_at(n, at)):
                return (at, gluing_at(n, at))
        return None

    def test_every_number_of_one_tetrahedron(self):
        for number in range(112):
            for tries in (1, 2, 7, 200):
                self.assertEqual(next_closed(1, number, tries=tries), self.told_next(1, number, tries))
            self.assertEqual(next_closed(1, number), self.told_next(1, number, 200))

    def test_two_tetrahedra(self):
        seen = set()
        for number in [number_of(ring(2, 1)), number_of(ring(2, 1)) + 1, *range(0, 136080, 2777), 136079]:
            for tries in (1, 200):
                found = next_closed(2, number, tries=tries)
                self.assertEqual(found, self.told_next(2, number, tries))
                seen.add((tries, found is None))
        self.assertEqual(seen, {(1, True), (1, False), (200, True), (200, False)})

    def test_numbers_of_closed_gluings(self):
        for gluing in (ring(1, 0), ring(2, 1), ring(3, 1), ring(5, 2), ring(6, 1), gluing_of(FOURTH)):
            number = number_of(gluing)
            self.assertEqual(next_closed(len(gluing), number, tries=1), (number, gluing))
            self.assertEqual(next_closed(len(gluing), number), (number, gluing))

    def test_how_far_it_looks(self):
        for n, first, second in GAPS:
            self.assertEqual(next_closed(n, first + 1, tries=second - first), (second, gluing_at(n, second)))
            self.assertIsNone(next_closed(n, first + 1, tries=second - first - 1))
        self.assertTrue(any(second - first > 201 for _, first, second in GAPS))
        for n, first, second in GAPS:
            found = next_closed(n, first + 1)
            self.assertEqual(found is None, second - first > 200)
            if found is None:
                self.assertIsNone(next_closed(n, second - 200))
                self.assertEqual(next_closed(n, second - 199)[0], second)

    def test_the_last_numbers(self):
        for n in (1, 2, 6):
            whole = count_gluings(n)
            for number in (whole, whole + 1, GREAT):
                for tries in (1, 2000):
                    self.assertIsNone(next_closed(n, number, tries=tries))
            self.assertEqual(next_closed(n, whole - 3, tries=2000), self.told_next(n, whole - 3, 3))

    def test_the_most_tries(self):
        self.assertEqual(next_closed(6, 10 ** 20, tries=2000), self.told_next(6, 10 ** 20, 2000))
        self.assertEqual(next_closed(1, 0, tries=2000)[0], 0)

    def test_wrong_numbers(self):
        for number in (-1, -GREAT):
            with self.assertRaises(BadNumber):
                next_closed(1, number)
        for tries in (0, 2001, -1, GREAT, -GREAT):
            for number in (0, 108):
                with self.assertRaises(BadNumber):
                    next_closed(1, number, tries=tries)


class CensusTest(unittest.TestCase):
    def test_census(self):
        found = census()
        closed = [gluing for gluing in all_of_one() if is_closed(gluing)]
        self.assertEqual(found, sorted({standard_form(gluing) for gluing in closed}))
        self.assertEqual((type(found), len(found)), (list, 4))
        for gluing in found:
            self.assertTrue(is_closed(gluing))
            self.assertEqual(standard_form(gluing), gluing)

    def test_each_closed_gluing_is_renamed_to_one_of_them(self):
        for gluing in all_of_one():
            turned = {renamed(gluing, ((0, p),)) for p in PERMUTATIONS}
            self.assertEqual(len(turned & set(census())), 1 if is_closed(gluing) else 0)

    def test_results_are_new_lists(self):
        census().clear()
        self.assertEqual(len(census()), 4)


if __name__ == "__main__":
    unittest.main()
