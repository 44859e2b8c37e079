import unittest

from wedgespace import errors
from wedgespace.errors import BadJournal, BadMove, Malformed, NotGluing, WedgeError

WITH_MESSAGE = [
    "NotJoined", "NotClosed", "NotRenaming", "NotWord", "NotImages", "NotMatrix", "NotVector",
    "NotWay", "BadNumber", "TooLarge", "NoAnswer", "NotGroup", "OpenTrial",
]


class ErrorsTest(unittest.TestCase):
    def test_base_class(self):
        self.assertEqual(WedgeError.__bases__, (ValueError,))

    def test_each_error_is_directly_below_the_base_class(self):
        for name in WITH_MESSAGE + ["NotGluing", "BadMove", "Malformed", "BadJournal"]:
            self.assertEqual(getattr(errors, name).__bases__, (WedgeError,), name)

    def test_errors_with_a_message(self):
        for name in WITH_MESSAGE:
            with self.assertRaises(WedgeError) as caught:
                raise getattr(errors, name)("why")
            self.assertEqual(str(caught.exception), "why")

    def test_errors_with_an_integer(self):
        for error in (NotGluing, BadMove, Malformed):
            self.assertEqual(error(17).at, 17)
            self.assertEqual(error(0).at, 0)
        self.assertEqual(BadJournal(5).row, 5)


if __name__ == "__main__":
    unittest.main()
