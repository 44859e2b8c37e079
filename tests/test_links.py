"""Promises 24 to 27: links, closed gluings, Euler numbers."""

import unittest

from tests.samples import (
    EXAMPLE, KLEIN, ONE_SIDED, PLANES, TORUS, TURNED, all_of_one, closed_gluings, gluing_of,
    is_odd, open_gluings, placed, random_gluing, ring, sample_gluings, wrong_gluings)
from tests.test_skeleton import faces_of, merged
from wedgespace.errors import BadNumber, NotClosed, NotGluing
from wedgespace.gluings import is_joined, union
from wedgespace.links import check_closed, is_closed, link_can_be_oriented, link_numbers
from wedgespace.skeleton import corner_classes, euler_number, turned_edges


def expected_link_number(gluing, places):
    """Return vertices minus sides plus triangles of the link of a corner class."""
    ends = [(t, i, j) for t, i in places for j in range(4) if j != i]
    pairs = [((t, i, j), (u, p[i], p[j])) for t, f, u, p in faces_of(gluing)
             for i in range(4) for j in range(4) if len({i, j, f}) == 3 and (t, i) in places]
    sides = {(t, i, f) for t, i in places for f in range(4) if f != i}
    glued = {frozenset([(t, i, f), (gluing[t][f][0], gluing[t][f][1][i], gluing[t][f][1][f])])
             for t, i, f in sides}
    return len(merged(ends, pairs)) - len(glued) + len(places)


def expected_orientation(gluing, places):
    """Return True if senses of turning fit, by carrying a sense from triangle to triangle."""
    def steps(i, sense):
        a, b, c = [j for j in range(4) if j != i]
        return {(a, b), (b, c), (c, a)} if sense else {(b, a), (c, b), (a, c)}
    senses = {places[0]: True}
    todo = [places[0]]
    while todo:
        t, i = todo.pop()
        for f in range(4):
            if f == i:
                continue
            u, p = gluing[t][f]
            (x, y), = [step for step in steps(i, senses[(t, i)]) if f not in step]
            # The other triangle goes along the common side the opposite way.
            sense = (p[y], p[x]) in steps(p[i], True)
            if (u, p[i]) not in senses:
                senses[(u, p[i])] = sense
                todo.append((u, p[i]))
            elif senses[(u, p[i])] != sense:
                return False
    return True


class LinkNumbersTest(unittest.TestCase):
    def test_told_links(self):
        told = [(EXAMPLE, [2, 2]), (ONE_SIDED, [2]), (KLEIN, [0]), (TORUS, [0]), (PLANES, [1, 1]),
                (TURNED, [2, 2]), ("0:1203 0:2013 0:1230 0:3012", [-1]),
                ("0:1032 0:1032 0:0132 0:0132", [2, 1]), ("0:1023 0:1023 0:1032 0:1032", [1, 2])]
        for text, numbers in told:
            self.assertEqual(link_numbers(gluing_of(text)), numbers, text)
        self.assertEqual(link_numbers(ring(40, 7)), [2, 2])

    def test_in_the_order_of_the_corner_classes(self):
        apart = placed([gluing_of(KLEIN), ring(3, 1)], [1, 0, 2, 3])
        self.assertEqual(link_numbers(apart), [2, 2, 0])
        self.assertEqual(link_numbers(union(gluing_of(KLEIN), ring(3, 1))), [0, 2, 2])

    def test_links_by_the_words(self):
        lesser = set()
        for gluing in sample_gluings() + all_of_one():
            numbers = [expected_link_number(gluing, places) for places in corner_classes(gluing)]
            self.assertEqual(link_numbers(gluing), numbers)
            self.assertLessEqual(max(numbers), 2)
            lesser.update(numbers)
        self.assertTrue({2, 1, 0, -1, -2} <= lesser)


class LinkOrientationTest(unittest.TestCase):
    def test_told_links(self):
        told = [(EXAMPLE, [True, True]), (ONE_SIDED, [True]), (KLEIN, [False]), (TORUS, [True]),
                (PLANES, [False, False]), (TURNED, [True, True]),
                ("0:1032 0:1032 0:0132 0:0132", [True, False]),
                ("0:1023 0:1023 0:1032 0:1032", [False, True])]
        for text, expected in told:
            for index, answer in enumerate(expected):
                self.assertIs(link_can_be_oriented(gluing_of(text), index), answer)

    def test_links_by_the_words(self):
        found = {True: 0, False: 0}
        for gluing in sample_gluings() + all_of_one():
            for index, places in enumerate(corner_classes(gluing)):
                expected = expected_orientation(gluing, places)
                self.assertIs(link_can_be_oriented(gluing, index), expected)
                found[expected] += 1
        self.assertGreater(min(found.values()), 30)

    def test_spheres_can_be_oriented(self):
        for gluing in sample_gluings():
            for index, number in enumerate(link_numbers(gluing)):
                if number == 2:
                    self.assertTrue(link_can_be_oriented(gluing, index))
                if number % 2 == 1:
                    self.assertFalse(link_can_be_oriented(gluing, index))

    def test_oriented_gluings_have_links_that_can_be_oriented(self):
        checked = 0
        for gluing in sample_gluings() + all_of_one():
            oriented = all(is_odd(p) for row in gluing for _, p in row)
            if oriented and is_joined(gluing) and turned_edges(gluing) == []:
                checked += 1
                for index in range(len(corner_classes(gluing))):
                    self.assertTrue(link_can_be_oriented(gluing, index))
        self.assertGreater(checked, 8)

    def test_no_such_class(self):
        for gluing in (gluing_of(EXAMPLE), gluing_of(KLEIN), ring(5, 2)):
            count = len(corner_classes(gluing))
            for index in (-1, -count, count, count + 1, 10 ** 30, -10 ** 30):
                with self.assertRaises(BadNumber):
                    link_can_be_oriented(gluing, index)

    def test_a_wrong_gluing_comes_first(self):
        for gluing, at in wrong_gluings():
            for index in (0, -1, 10 ** 30):
                with self.assertRaises(NotGluing) as caught:
                    link_can_be_oriented(gluing, index)
                self.assertEqual(caught.exception.at, at)


class ClosedTest(unittest.TestCase):
    def test_closed(self):
        for gluing in closed_gluings() + [gluing_of(EXAMPLE), gluing_of(ONE_SIDED), ring(40, 7)]:
            self.assertIs(is_closed(gluing), True)
            self.assertIsNone(check_closed(gluing))

    def test_not_closed(self):
        for gluing in open_gluings():
            self.assertIs(is_closed(gluing), False)
            with self.assertRaises(NotClosed):
                check_closed(gluing)

    def test_each_condition_alone(self):
        apart = union(ring(1, 0), ring(2, 1))
        self.assertEqual((turned_edges(apart), set(link_numbers(apart))), ([], {2}))
        self.assertFalse(is_closed(apart))
        turned = gluing_of(TURNED)
        self.assertEqual((is_joined(turned), set(link_numbers(turned))), (True, {2}))
        self.assertFalse(is_closed(turned))
        for text in (KLEIN, TORUS, PLANES, "0:1203 0:2013 1:0123 1:0123 / 1:1203 1:2013 0:0123 0:0123"):
            gluing = gluing_of(text)
            self.assertEqual((is_joined(gluing), turned_edges(gluing)), (True, []))
            self.assertFalse(is_closed(gluing))

    def test_closed_by_the_words(self):
        closed = 0
        for gluing in sample_gluings() + all_of_one():
            expected = (is_joined(gluing) and turned_edges(gluing) == []
                        and set(link_numbers(gluing)) == {2})
            self.assertIs(is_closed(gluing), expected)
            closed += expected
        self.assertGreater(closed, 10)

    def test_closed_exactly_if_the_euler_number_is_zero(self):
        for gluing in sample_gluings() + all_of_one() + closed_gluings():
            if is_joined(gluing) and turned_edges(gluing) == []:
                self.assertIs(is_closed(gluing), euler_number(gluing) == 0)

    def test_euler_numbers_without_turned_edges(self):
        checked = 0
        for gluing in sample_gluings() + all_of_one() + [random_gluing(3, k) for k in range(99)]:
            if turned_edges(gluing) == []:
                checked += 1
                links = link_numbers(gluing)
                self.assertEqual(2 * euler_number(gluing), 2 * len(links) - sum(links))
        self.assertGreater(checked, 20)

    def test_wrong_gluings(self):
        for gluing, at in wrong_gluings():
            for call in (is_closed, check_closed, link_numbers):
                with self.assertRaises(NotGluing) as caught:
                    call(gluing)
                self.assertEqual(caught.exception.at, at)

    def test_results_are_new_lists(self):
        link_numbers(ring(2, 1)).clear()
        self.assertEqual(link_numbers(ring(2, 1)), [2, 2])


if __name__ == "__main__":
    unittest.main()
