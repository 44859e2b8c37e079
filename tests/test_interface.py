"""The names and arguments of the interface, and promise 0."""

import importlib
import inspect
import unittest

from tests.samples import gluing_of, ring, EXAMPLE
from wedgespace.errors import NotGluing

INTERFACE = {
    "perms": [
        "is_permutation(entries)", "after(one, other)", "inverse(one)", "is_odd(one)",
        "all_permutations()", "index_of(one)"],
    "gluings": [
        "is_gluing(gluing)", "check_gluing(gluing)", "is_joined(gluing)", "pieces(gluing)",
        "union(one, other)", "mirror(gluing)", "is_oriented(gluing)", "sides(gluing)"],
    "texts": ["text_of(gluing)", "read_gluing(text)"],
    "skeleton": [
        "corner_classes(gluing)", "edge_classes(gluing)", "turned_edges(gluing)",
        "edge_signs(gluing)", "degrees(gluing)", "edge_index(a, b)",
        "around(gluing, t, a, b, c)", "euler_number(gluing)"],
    "links": [
        "link_numbers(gluing)", "link_can_be_oriented(gluing, index)", "is_closed(gluing)",
        "check_closed(gluing)"],
    "renaming": [
        "is_renaming(n, renaming)", "same_names(n)", "renamed(gluing, renaming)",
        "joined_renamings(one, other)", "undone_renaming(one)",
        "is_renaming_to(one, other, renaming)"],
    "forms": [
        "walk_form(gluing, t, p)", "standard_form(gluing)", "standard_renaming(gluing)",
        "renamings(one, other)", "symmetries(gluing)"],
    "moves": [
        "can(gluing, move)", "made(gluing, move)",
        "moves_of(gluing, *, kinds=('split', 'join', 'face', 'edge'))"],
    "undo": ["undoing(gluing, move)", "carried(gluing, renaming, move)"],
    "ways": [
        "replay(gluing, log)", "is_way(one, other, way)", "undone(one, other, way)",
        "joined(one, middle, other, first, second)", "shortened(one, other, way)"],
    "walk": ["ball(gluing, radius, *, most)", "find_way(one, other, *, most=4)"],
    "matrices": [
        "is_matrix(rows, columns)", "identity(size)", "product(one, other, columns)",
        "times(vector, rows, columns)", "transposed(rows, columns)"],
    "diagonal": [
        "diagonal_form(rows, columns)", "is_diagonal_form(rows, columns, form)",
        "divisors(rows, columns)", "combination(rows, columns, vector)",
        "test_weights(rows, columns, vector)", "kernel(rows, columns)"],
    "chains": [
        "cell_counts(gluing)", "border_matrix(gluing, dimension)",
        "border(gluing, dimension, chain)", "side_signs(gluing)", "turning_circle(gluing)"],
    "homology": [
        "homology(gluing, dimension)", "number_modulo(gluing, dimension, prime)",
        "homology_forms(gluing)", "filling(gluing, cycle)", "cycle_test(gluing, cycle)"],
    "paths": [
        "pairs_of(gluing)", "tree_pairs(gluing)", "generators_of(gluing)",
        "path_end(gluing, path)", "path_word(gluing, path)", "backwards(gluing, path)",
        "branch(gluing, t)", "circle(gluing, t, e)"],
    "groups": [
        "group_of(gluing)", "inverse_word(word)", "cut_word(word)", "loop(gluing, k)",
        "names(gluing, renaming)", "sums(count, word)"],
    "images": [
        "check_images(count, images)", "permutation_of(images, word)",
        "satisfies(group, images)", "is_transitive(images)", "all_images(group, degree)",
        "classes_of(group, degree)"],
    "covers": [
        "cover(gluing, images)", "side_images(gluing)", "cover_numbers(gluing, degree)",
        "cover_homologies(gluing, degree)"],
    "surfaces": [
        "fits(gluing, vector)", "is_allowed(gluing, vector)", "weights(gluing, vector)",
        "euler(gluing, vector)", "agree(gluing, one, other)", "link_vector(gluing, corner_class)",
        "is_simple(gluing, vector)", "simple_vectors(gluing)"],
    "pieces": [
        "pieces(gluing, vector)", "neighbours(gluing, vector, piece)", "parts(gluing, vector)",
        "has_turns(gluing, vector)"],
    "rings": ["ring(p, q)", "ring_order(p, q)", "ring_numbers(gluing)", "axis_of(gluing, t, e)"],
    "census": [
        "count_gluings(tetrahedra)", "gluing_at(tetrahedra, number)",
        "next_closed(tetrahedra, number, *, tries=200)", "number_of(gluing)", "census()"],
    "decide": [
        "decide(one, other)", "is_answer(one, other, answer)", "shows(answer)",
        "told_homology(forms, counts)"],
    "certificates": [
        "is_way(one, other, way)", "homologies_told(gluing, forms)", "are_signs(gluing, signs)",
        "is_turning_circle(gluing, circle)", "is_filling(gluing, cycle, chain)",
        "is_cycle_test(gluing, cycle, test)", "image_count(gluing, degree)",
        "shown(one, other, answer)"],
    "lines": ["words_of(line)", "is_name(word)", "number_in(word)"],
    "journal": ["attempt(journal, lines, *, keep=False)", "resume(text)"],
}

CLASSES = {
    ("desk", "Desk"): ["answer(self, line)", "answers(self, lines)", "names(self)", "thing(self, name)"],
    ("journal", "Journal"): [
        "answer(self, line)", "record(self)", "lines(self)", "keep(self)", "__enter__(self)",
        "__exit__(self, kind, value, trace)"],
}

ERRORS = [
    "WedgeError", "NotJoined", "NotClosed", "NotRenaming", "NotWord", "NotImages", "NotMatrix",
    "NotVector", "NotWay", "BadNumber", "TooLarge", "NoAnswer", "NotGroup", "OpenTrial",
    "NotGluing", "BadMove", "Malformed", "BadJournal"]


def functions_of(module):
    """Return the pairs of a function of a module and its signature in the interface."""
    found = importlib.import_module(f"wedgespace.{module}")
    return [(getattr(found, told.split("(")[0]), told) for told in INTERFACE[module]]


class InterfaceTest(unittest.TestCase):
    def test_names_and_arguments(self):
        for module in INTERFACE:
            for function, told in functions_of(module):
                self.assertTrue(inspect.isfunction(function), told)
                self.assertEqual(function.__name__ + str(inspect.signature(function)), told)
                self.assertEqual(function.__module__, f"wedgespace.{module}")

    def test_classes(self):
        for (module, name), methods in CLASSES.items():
            found = getattr(importlib.import_module(f"wedgespace.{module}"), name)
            self.assertEqual((found.__name__, found.__module__), (name, f"wedgespace.{module}"))
            self.assertEqual(str(inspect.signature(found)), "()")
            for told in methods:
                # Defined in the class itself, not in a base class.
                method = found.__dict__[told.split("(")[0]]
                self.assertEqual(method.__name__ + str(inspect.signature(method)), told)

    def test_errors(self):
        module = importlib.import_module("wedgespace.errors")
        for name in ERRORS:
            self.assertEqual(getattr(module, name).__module__, "wedgespace.errors")

    def test_integers_of_any_size(self):
        # Python writes no integer of so many digits, not even in the message of an error.
        great = 10 ** 5000
        gluing = gluing_of(EXAMPLE)
        same = ((0, (0, 1, 2, 3)),)
        bad = (((great, (great, 1, 2, 3)),) * 4,)
        for module in INTERFACE:
            for function, told in functions_of(module):
                if told.endswith("(gluing)") and function.__name__ != "is_gluing":
                    with self.assertRaises(NotGluing):
                        function(bad)
        calls = {
            "after": [((0, 1, 2, great), (0, 1, 2, 3))], "edge_index": [(great, -great)],
            "around": [(gluing, great, 0, 1, 2), (gluing, 0, great, 1, -great)],
            "link_can_be_oriented": [(gluing, great)], "same_names": [(great,), (-great,)],
            "renamed": [(gluing, ((great, (0, 1, 2, great)),))],
            "joined_renamings": [(((great, (0, 1, 2, 3)),), ((0, (0, great, 1, 2)),))],
            "walk_form": [(gluing, great, (0, 1, 2, 3)), (gluing, 0, (great, 1, 2, 3))],
            "made": [(gluing, ("split", great)), (gluing, ("edge", 0, -great))],
            "undoing": [(gluing, ("split", great)), (gluing, ("edge", 0, -great))],
            "carried": [(gluing, ((great, (0, 1, 2, 3)),), ("split", 0)),
                        (gluing, same, ("split", -great))],
            "replay": [(gluing, (("split", great),))],
            "undone": [(gluing, gluing, ((("split", great),), same))],
            "identity": [(great,)], "times": [([great], [[1, 2]], great)],
            "border": [(gluing, great, [great])], "homology": [(gluing, -great)],
            "number_modulo": [(gluing, 0, great)], "filling": [(gluing, [great])],
            "branch": [(gluing, great)], "circle": [(gluing, 0, -great)],
            "path_end": [(gluing, (great, ()))], "path_word": [(gluing, (0, (great,)))],
            "loop": [(gluing, great)], "sums": [(-great, ()), (1, (great,))],
            "permutation_of": [(((0, great),), ()), (((0, 1),), (great,))],
            "satisfies": [((1, ((great,),)), ((0,),)), ((1, ()), ((great,),))],
            "classes_of": [((great, ()), 1), ((1, ()), great)],
            "cover": [(gluing, ((0, great), (great, 0))), (gluing, ((great,), (0,)))],
            "cover_numbers": [(gluing, great)], "cover_homologies": [(gluing, -great)],
            "fits": [(gluing, [great] * 7)], "is_simple": [(gluing, [-great] * 7)],
            "agree": [(gluing, [0] * 7, [great] * 7)], "link_vector": [(gluing, great)],
            "neighbours": [(gluing, [1, 1, 0, 0, 0, 0, 0], (0, 0, great))], "parts": [(gluing, [great] * 7)],
            "ring": [(great, 0), (1, -great)], "ring_order": [(great, great)], "axis_of": [(gluing, great, 0)],
            "count_gluings": [(great,)], "gluing_at": [(great, 0), (1, great)],
            "next_closed": [(great, 0), (1, -great)], "image_count": [(gluing, great)],
        }
        for module in INTERFACE:
            for function, told in functions_of(module):
                for arguments in calls.pop(function.__name__, []):
                    with self.assertRaises(ValueError) as caught:
                        function(*arguments)
                    self.assertEqual(type(caught.exception).__module__, "wedgespace.errors")
        self.assertEqual(calls, {})

    def test_same_answers_again(self):
        # Nothing is kept from one call to the next one.
        gluing = ring(3, 1)
        for module in ("skeleton", "links", "forms", "moves", "chains", "homology", "paths", "groups",
                       "covers", "rings"):
            for function, told in functions_of(module):
                if told.split("(")[1].startswith("gluing)") or "kinds" in told:
                    first = repr(function(gluing))
                    function(ring(2, 0))
                    self.assertEqual(repr(function(gluing)), first)


if __name__ == "__main__":
    unittest.main()
