"""Stage 0: the errors."""

import unittest

from settledplay import errors

PLAIN = ("InvalidText", "InvalidLuck", "InvalidWorld", "InvalidGame", "InvalidPlace", "InvalidRecord", "InvalidWord",
         "InvalidRow", "InvalidSetup", "InvalidLetter", "InvalidDisk", "InvalidBox", "InvalidTape", "InvalidStanding",
         "InvalidAct", "InvalidPaper", "InvalidOperation")
KEEPING = (("ParseError", "spot", errors.PlayError), ("InvalidNumber", "given", IndexError),
           ("UnknownName", "wanted", KeyError), ("TooMany", "limit", OverflowError),
           ("Refused", "reason", ArithmeticError))


class ErrorsTest(unittest.TestCase):
    def test_bases(self):
        self.assertEqual(errors.PlayError.__bases__, (ValueError,))
        for name in PLAIN:
            self.assertEqual(getattr(errors, name).__bases__, (errors.PlayError,), name)
        for name, _, base in KEEPING:
            self.assertEqual(getattr(errors, name).__bases__, (base,), name)

    def test_messages(self):
        for name in ("PlayError",) + PLAIN:
            with self.assertRaises(errors.PlayError) as caught:
                raise getattr(errors, name)("told")
            self.assertEqual(str(caught.exception), "told", name)

    def test_kept_values(self):
        for name, attribute, _ in KEEPING:
            for value in (None, True, 5, "word", ("hole", 3), [1], {"a": 1}):
                self.assertIs(getattr(getattr(errors, name)(value), attribute), value, name)


if __name__ == "__main__":
    unittest.main()
