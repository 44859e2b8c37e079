"""Promise 7: texts of gluings."""

import unittest

from tests.samples import (
    EXAMPLE, KLEIN, ONE_SIDED, gluing_of, ring, sample_gluings, wrong_gluings)
from wedgespace.errors import Malformed, NotGluing
from wedgespace.texts import read_gluing, text_of

# Each text with the index of its first word that cannot stand at its place.
MALFORMED = [
    ("", 0), (" ", 0), ("/", 0), ("x", 0), ("0", 0), ("0:", 0), (":", 0), (":0123", 0),
    ("00:0123", 0), ("01:0123", 0), ("09:0123", 0), ("100:0123", 0), ("000:0123", 0),
    ("-1:0123", 0), ("+1:0123", 0), ("1_0:0123", 0), ("a:0123", 0), ("1a:0123", 0),
    ("0:012", 0), ("0:01234", 0), ("0:0124", 0), ("0:0129", 0), ("0:-123", 0), ("0:01 23", 0),
    ("0::0123", 0), ("0:0123:", 0), ("0:01:23", 0), ("0;0123", 0), ("0:012a", 0),
    ("\u0660:0123", 0), ("0:012\uff13", 0), ("\u00b2:0123", 0), ("0:0123\n", 0), ("\t0:0123", 0),
    (" " + EXAMPLE, 0),
    ("0:1023", 1), ("0:1023 ", 1), ("0:1023  0:1023 0:0132 0:0132", 1), ("0:1023 /", 1),
    ("0:1023 x", 1), ("0:1023 0:1023 0:0132", 3), ("0:1023 0:1023 0:0132 /", 3),
    ("0:1023 0:1023 0:0132 00:0132", 3), ("0:1023 0:1023 0:0132 0:0132\n", 3),
    (EXAMPLE + " ", 4), (EXAMPLE + " x", 4), (EXAMPLE + " //", 4), (EXAMPLE + " 0:1023", 4),
    (EXAMPLE + "  / " + EXAMPLE, 4), (EXAMPLE + " " + EXAMPLE, 4),
    (EXAMPLE + " /", 5), (EXAMPLE + " / ", 5), (EXAMPLE + " / /", 5), (EXAMPLE + " / x", 5),
    (EXAMPLE + " /  " + EXAMPLE, 5),
    (EXAMPLE + " / 1:1023", 6), (EXAMPLE + " / 1:1023 1:1023 1:0132", 8),
    (EXAMPLE + " / " + EXAMPLE + " /", 10), (EXAMPLE + " / " + EXAMPLE + " / 100:0123", 10),
    ("0:1023 y 0:0132 x", 1), ("0:0000 0:9999", 1), ("0:0000", 1),
]

# Each text that is right in form, with the number of its first entry that is not right.
NO_GLUINGS = [
    ("0:0000 0:1023 0:0132 0:0132", 0), ("1:1023 0:1023 0:0132 0:0132", 0),
    ("99:1023 0:1023 0:0132 0:0132", 0), ("0:1023 0:1023 0:0132 0:0123", 2),
    ("0:1023 0:1023 0:0123 0:0123", 2), ("0:1023 0:1023 0:0132 10:0132", 2),
    (EXAMPLE + " / " + EXAMPLE, 4), (" / ".join([EXAMPLE] * 41), 0),
]


class TextsTest(unittest.TestCase):
    def test_texts(self):
        told = (((0, (1, 0, 2, 3)), (0, (1, 0, 2, 3)), (0, (0, 1, 3, 2)), (0, (0, 1, 3, 2))),)
        self.assertEqual(text_of(told), EXAMPLE)
        self.assertEqual(read_gluing(EXAMPLE), told)
        self.assertEqual(text_of(ring(2, 1)), "1:1023 1:1023 1:0132 1:0132 / 0:1023 0:1023 0:0132 0:0132")
        self.assertEqual(text_of(ring(11, 1)).split(" ")[:6],
                         ["10:1023", "1:1023", "1:0132", "10:0132", "/", "0:1023"])

    def test_there_and_back(self):
        for gluing in sample_gluings():
            text = text_of(gluing)
            self.assertEqual(read_gluing(text), gluing)
            self.assertEqual(gluing_of(text), gluing)
        for text in (EXAMPLE, KLEIN, ONE_SIDED, text_of(ring(40, 3))):
            self.assertEqual(text_of(read_gluing(text)), text)

    def test_malformed_texts(self):
        for text, at in MALFORMED:
            with self.assertRaises(Malformed, msg=text) as caught:
                read_gluing(text)
            self.assertEqual(caught.exception.at, at, text)

    def test_texts_that_make_no_gluing(self):
        for text, at in NO_GLUINGS:
            with self.assertRaises(NotGluing, msg=text) as caught:
                read_gluing(text)
            self.assertEqual(caught.exception.at, at, text)

    def test_text_of_no_gluing(self):
        for gluing, at in wrong_gluings():
            with self.assertRaises(NotGluing) as caught:
                text_of(gluing)
            self.assertEqual(caught.exception.at, at)


if __name__ == "__main__":
    unittest.main()
