"""Promise 280, and the words of promise 281: lines, names and integers."""

import unittest

from wedgespace.lines import is_name, number_in, words_of

PERCENT = chr(37)


class WordsTest(unittest.TestCase):
    def test_words(self):
        told = {"a": ["a"], "ring x 5 2": ["ring", "x", "5", "2"], "show x": ["show", "x"], "! ~": ["!", "~"],
                "A-b_C:0/1\\\"'": ["A-b_C:0/1\\\"'"], "0:1023 / $&": ["0:1023", "/", "$&"]}
        for line, expected in told.items():
            self.assertEqual(words_of(line), expected)

    def test_every_character(self):
        for code in list(range(300)) + [0x2028, 0x3000, 0xff21, 0x1f600]:
            character = chr(code)
            expected = [f"a{character}b", "c"] if "!" <= character <= "~" and character != PERCENT else None
            if character == " ":
                expected = ["a", "b", "c"]
            self.assertEqual(words_of(f"a{character}b c"), expected)
            self.assertEqual(words_of(character) is None, expected is None or character == " ")

    def test_malformed_lines(self):
        told = ["", " ", "  ", " a", "a ", "a  b", " a b", "a b ", "a   b", "a\tb", "a\n", "\na", "a\nb", "a\rb", "a\x00",
                "a\x1fb", "a\x7f", f"a{PERCENT}b", PERCENT, f"a {PERCENT}", "a \u00e9", "a\u00a0b", "a\u2003b", "\x0b", "a\x0cb"]
        for line in told:
            self.assertIsNone(words_of(line))

    def test_results_are_new_lists(self):
        words_of("a b").clear()
        self.assertEqual(words_of("a b"), ["a", "b"])


class NameTest(unittest.TestCase):
    def test_names(self):
        for word in ("a", "z", "abc", "q" * 11, "q" * 12, "gluing", "abcdefghijkl", "mnopqrstuvwx"):
            self.assertIs(is_name(word), True)

    def test_others(self):
        for word in ("", "q" * 13, "q" * 100, "A", "aB", "Abc", "a1", "1", "0", "a-b", "a b", "a_b", "a\n", "\u00e9", "a\u0131",
                     "`", "{", "~", "a:", " a", "\uff41"):
            self.assertIs(is_name(word), False)


class NumberTest(unittest.TestCase):
    def test_numbers(self):
        for number in range(100):
            self.assertEqual(number_in(str(number)), number)

    def test_others(self):
        for word in ("", "00", "01", "07", "09", "100", "101", "007", "-1", "-0", "+1", "1.", "a", "1a", "a1", " 1", "1 ", "1_0",
                     "\u0661", "\u00b2", "\uff11", "1\u0661", "9" * 5000, "0x1", "1e"):
            self.assertIsNone(number_in(word))


if __name__ == "__main__":
    unittest.main()
